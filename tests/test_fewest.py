"""Promise 4, and what the document says ahead of it."""

import contextlib
import inspect
import io
import itertools
import unittest

from stepcircuits.circuits import best, fewest, fits
from tests.helper import (
    CORRELATOR,
    GREATEST_NUMBER,
    LEAST_NUMBER,
    CallCase,
    circuit,
    great_circuits,
    numbers,
    ring,
    shifted,
    slowest_from,
    some_circuits,
    told_choices,
    told_circuit,
    told_fewest,
    within_steps,
    worth_asking,
)

SMALL = ([0, 3, 5], [(0, 1, 1), (1, 2, 0), (2, 0, 1)])
# Behind part 1 the wires part, ahead of part 3 they meet.
PARTING = ([0, 1, 1, 1], [(0, 1, 1), (1, 2, 1), (1, 3, 1), (2, 0, 0), (3, 0, 0)])
MEETING = ([0, 1, 1, 1], [(0, 1, 2), (0, 2, 2), (1, 3, 0), (2, 3, 0), (3, 0, 0)])


class FewestCase(CallCase):
    def fewest_are(self, many, shifts, p, delays, wires, kinds=None):
        wanted = [many] + shifts + [0] * (16 - len(shifts))
        self.assertEqual(wanted, self.asked(fewest, [p] + circuit(delays, wires, kinds)))
        self.assertEqual(many, sum(w[2] for w in shifted(wires, shifts)))

    def none_fit(self, p, delays, wires):
        self.assertEqual([-3], self.asked(fewest, [p] + circuit(delays, wires)))
        self.assertEqual([0], fits(p, *circuit(delays, wires)))


class Ordinary(FewestCase):
    def test_parts_with_more_wires_out_than_in(self):
        self.fewest_are(2, [0, 1, 0, 0], 3, *PARTING)
        self.fewest_are(2, [0, 1, 0, 0], GREATEST_NUMBER, *PARTING)

    def test_parts_with_more_wires_in_than_out(self):
        self.fewest_are(2, [0, -2, -2, -2], 3, *MEETING)
        self.fewest_are(2, [0, -2, -2, -2], GREATEST_NUMBER, *MEETING)

    def test_a_tight_period_needs_more(self):
        self.fewest_are(3, [0, 0, 0, 0], 1, *PARTING)
        self.fewest_are(2, [0, 1, 0, 0], 2, *PARTING)
        self.fewest_are(3, [0, -2, -2, -1], 1, *MEETING)
        self.fewest_are(2, [0, -2, -2, -2], 2, *MEETING)

    def test_as_many_as_at_first(self):
        self.fewest_are(3, [0, 0, 0, 0], 1, *PARTING)
        self.fewest_are(4, [0] * 8, 24, *CORRELATOR)

    def test_more_than_at_first(self):
        self.fewest_are(5, [0, -1, -1, -2, -2, -2, -1, 0], 13, *CORRELATOR)
        self.assertEqual(4, sum(w[2] for w in CORRELATOR[1]))

    def test_several_have_as_few_the_greatest_count(self):
        self.fewest_are(2, [0, 1, 1], 8, *SMALL)
        self.fewest_are(2, [0, 0, 1], 7, *SMALL)
        self.fewest_are(2, [0, 0, 1], 5, *SMALL)
        wires = [(0, 1, 3), (1, 2, 3), (2, 0, 3)]
        self.fewest_are(9, [0, 6, 3], 8, [0, 3, 5], wires)
        self.fewest_are(9, [0, 5, 3], 7, [0, 3, 5], wires)

    def test_not_the_greatest_that_fit(self):
        delays, wires = [0, 1, 1], [(0, 1, 1), (0, 1, 1), (1, 2, 1), (2, 0, 1)]
        self.assertEqual([1, 0, 2, 1], fits(9, *circuit(delays, wires))[:4])
        self.fewest_are(3, [0, -1, 1], 9, delays, wires)

    def test_none(self):
        self.none_fit(4, *SMALL)
        self.none_fit(0, *SMALL)
        self.none_fit(12, *CORRELATOR)
        self.none_fit(7, [0, 3, 5], [(0, 1, 1), (1, 2, 0), (2, 0, 0)])

    def test_kinds_do_not_matter(self):
        for kinds in itertools.product(range(4), repeat=4):
            self.fewest_are(2, [0, 1, 0, 0], 2, *PARTING, kinds)


class Edges(FewestCase):
    def test_the_outside_alone(self):
        for p in (0, GREATEST_NUMBER):
            self.fewest_are(0, [0], p, [0], [])
            self.fewest_are(1, [0], p, [0], [(0, 0, 1)])
            self.fewest_are(384, [0], p, [0], [(0, 0, 8)] * 48)

    def test_sixteen_parts_and_forty_eight_wires(self):
        wires = [wire for wire in ring(16, 8) for _ in range(3)]
        self.assertEqual(48, len(wires))
        delays = [0] + [10] * 15
        self.fewest_are(24, [0] + [8] * 15, 150, delays, wires)
        self.fewest_are(24, [0, 1, 2, 2, 3, 3, 4, 4, 5, 5, 6, 6, 7, 7, 8, 8], 20, delays, wires)
        self.none_fit(19, delays, wires)

    def test_forty_eight_wires_all_one_way(self):
        # 47 wires lead to part 1 and one from it: its shift is as small as can be.
        self.fewest_are(16, [0, -8], 3, [0, 3], [(0, 1, 8)] * 47 + [(1, 0, 8)])
        self.fewest_are(16, [0, 8], 3, [0, 3], [(0, 1, 8)] + [(1, 0, 8)] * 47)

    def test_a_wire_may_have_more_than_eight_then(self):
        wires = [(0, 1, 8), (0, 1, 8), (1, 2, 8), (2, 0, 8)]
        self.fewest_are(24, [0, -8, 8], 2, [0, 1, 1], wires)
        self.assertEqual([0, 0, 24, 0], [w[2] for w in shifted(wires, [0, -8, 8])])

    def test_a_wire_from_a_part_to_itself(self):
        self.fewest_are(7, [0, 1], 3, [0, 3], [(0, 1, 1), (1, 1, 5), (1, 0, 1)])
        self.fewest_are(18, [0, 1], 3, [0, 3], [(0, 1, 1), (1, 1, 8), (1, 0, 1), (0, 0, 8)])

    def test_two_wires_between_the_same_parts(self):
        self.fewest_are(4, [0, -1], 3, [0, 3], [(0, 1, 1), (0, 1, 3), (1, 0, 1)])
        self.fewest_are(4, [0, 1], 3, [0, 3], [(0, 1, 1), (1, 0, 1), (1, 0, 3)])

    def test_parts_without_delay(self):
        self.fewest_are(2, [0, 1, 0, 0], 0, [0, 0, 0, 0], PARTING[1])
        self.fewest_are(2, [0, -2, -2, -2], 0, [0, 0, 0, 0], MEETING[1])

    def test_the_greatest_delays(self):
        delays = [0, 65535, 65535, 65535]
        self.fewest_are(2, [0, 1, 0, 0], 131070, delays, PARTING[1])
        self.fewest_are(3, [0, 0, 0, 0], 131069, delays, PARTING[1])
        self.none_fit(65534, delays, PARTING[1])


class Refusals(FewestCase):
    def test_p_below_nothing(self):
        for p in (-1, -2, LEAST_NUMBER):
            self.assertEqual([-2], self.asked(fewest, [p] + circuit(*SMALL)))
            self.assertEqual([-2], self.asked(fewest, [p] + circuit([0], [])))
            self.refused(fewest, [p])

    def test_no_circuit(self):
        for p in (0, 8, GREATEST_NUMBER):
            self.refused(fewest, [p])


class AgainstTheWords(FewestCase):
    def check(self, delays, wires):
        """Each p worth asking; how often the fewest weren't by the greatest shifts that fit."""
        choices = told_choices(delays, wires)
        other = 0
        for p in worth_asking(delays, choices):
            wanted = told_fewest(p, choices)
            lists = circuit(delays, wires)
            self.assertEqual(wanted, fewest(p, *lists), (p, delays, wires))
            other += wanted[1:] != fits(p, *lists)[1:]
        return other

    def test_all_small_circuits(self):
        for n, m in ((2, 2), (2, 3), (3, 3), (3, 4)):
            every = [wire for wire in itertools.product(range(n), range(n), (0, 1, 2)) if n == 2 or wire[2] < 2]
            for wires in itertools.combinations_with_replacement(every, m):
                if told_circuit([0, 3, 5][:n], wires, [0] * n):
                    self.check([0, 3, 5][:n], list(wires))

    def test_larger_circuits(self):
        other = 0
        for delays, wires in some_circuits(8, 250, 5, 6, 5):
            other += self.check(delays, wires)
        self.assertGreater(other, 200)

    def test_the_known_circuit(self):
        self.check(*CORRELATOR)


class NoneBesideIsBetter(FewestCase):
    """Where there are too many shifts to try, those are tried that differ by one at some parts.

    Shifts that fit are closed against taking the greater and the less part by part, and so if none of these has fewer
    registers, no shifts have; and if none of the greater ones has as few, none are greater that have.
    """

    def kept(self, p, delays, wires, shifts):
        after = shifted(wires, shifts)
        return min(w[2] for w in after) >= 0 and max(slowest_from(delays, after)) <= p

    def check(self, p, delays, wires):
        n = len(delays)
        answer = self.asked(fewest, [p] + circuit(delays, wires))
        shifts = answer[1:n + 1]
        self.assertEqual([0] * (16 - n), answer[n + 1:])
        self.assertEqual(0, shifts[0])
        self.assertTrue(self.kept(p, delays, wires, shifts))
        self.assertEqual(sum(w[2] for w in shifted(wires, shifts)), answer[0])
        more = [sum(w[1] == part for w in wires) - sum(w[0] == part for w in wires) for part in range(n)]
        for chosen in itertools.product((0, 1), repeat=n - 1):
            change = sum(itertools.compress(more[1:], chosen))
            if change <= 0 and any(chosen):
                beside = [shift + step for shift, step in zip(shifts, (0,) + chosen)]
                self.assertFalse(self.kept(p, delays, wires, beside), (p, delays, wires, beside))
            if change > 0:
                beside = [shift - step for shift, step in zip(shifts, (0,) + chosen)]
                self.assertFalse(self.kept(p, delays, wires, beside), (p, delays, wires, beside))

    def test_middling_circuits(self):
        source = numbers(9)
        for _ in range(40):
            n = 6 + next(source) % 4
            delays = [0] + [next(source) % 100 for _ in range(n - 1)]
            wires = [(part, (part + 1) % n, next(source) % 4) for part in range(n)]
            wires += [(next(source) % n, next(source) % n, next(source) % 9) for _ in range(next(source) % 20)]
            wires = [(u, v, w if u < v else max(w, 1)) for u, v, w in wires]
            least = best(*circuit(delays, wires))[0]
            for p in (least, least + next(source) % 100, GREATEST_NUMBER):
                self.check(p, delays, wires)

    def test_the_greatest_circuits(self):
        for delays, wires in great_circuits(10, 3):
            self.assertTrue(told_circuit(delays, wires, [0] * 16))
            self.check(best(*circuit(delays, wires))[0], delays, wires)
            self.check(GREATEST_NUMBER, delays, wires)


class FewSteps(unittest.TestCase):
    def test_too_many_shifts_and_ways_to_try(self):
        for delays, wires in great_circuits(11, 6):
            for p in (max(delays) - 1, best(*circuit(delays, wires))[0], sum(delays) // 2, GREATEST_NUMBER):
                answer = within_steps(2000000, fewest, p, *circuit(delays, wires))
                self.assertIn(len(answer), (1, 17))

    def test_all_wires_out_of_balance(self):
        wires = ring(16, 8) + [(part, 15, 8) for part in range(1, 15)] * 2 + [(1, 15, 8)] * 4
        self.assertEqual(48, len(wires))
        answer = within_steps(2000000, fewest, GREATEST_NUMBER, *circuit([0] + [1] * 15, wires))
        self.assertEqual(17, len(answer))


class Interface(unittest.TestCase):
    def test_arguments(self):
        wanted = ["p", "counts", "delays", "kinds", "starts", "ends", "registers"]
        parameters = inspect.signature(fewest).parameters
        self.assertEqual(wanted, list(parameters))
        for one in parameters.values():
            self.assertIs(one.default, inspect.Parameter.empty)
        answer = fewest(**dict(zip(wanted, [2] + circuit(*PARTING))))
        self.assertEqual([2, 0, 1] + [0] * 14, answer)

    def test_nothing_is_kept(self):
        many = [[2] + circuit(*PARTING), [1] + circuit(*PARTING), [0] + circuit(*PARTING), [-1] + circuit(*PARTING)]
        first = [fewest(*args) for args in many]
        self.assertEqual([2, 3, -3, -2], [answer[0] for answer in first])
        for args in many:
            fewest(*args).append(1)
        self.assertEqual(list(reversed(first)), [fewest(*args) for args in reversed(many)])

    def test_nothing_is_printed(self):
        out = io.StringIO()
        with contextlib.redirect_stdout(out), contextlib.redirect_stderr(out):
            for p in (-1, 0, 2):
                fewest(p, *circuit(*PARTING))
        self.assertEqual("", out.getvalue())


if __name__ == "__main__":
    unittest.main()
