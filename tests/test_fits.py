"""Promise 2, and what the document says ahead of it."""

import contextlib
import inspect
import io
import itertools
import unittest

from stepcircuits.circuits import fits, period
from tests.helper import (
    GREATEST_NUMBER,
    LEAST_NUMBER,
    CallCase,
    circuit,
    great_circuits,
    lowered_shifts,
    ring,
    shifted,
    slowest_from,
    some_circuits,
    told_choices,
    told_circuit,
    told_fits,
    within_steps,
    worth_asking,
)

# A way of 3 and 5 between two registers; the second may go back past part 2, or past both.
SMALL = ([0, 3, 5], [(0, 1, 1), (1, 2, 0), (2, 0, 1)])


class FitsCase(CallCase):
    def fits_by(self, shifts, p, delays, wires, kinds=None):
        wanted = [1] + shifts + [0] * (16 - len(shifts))
        self.assertEqual(wanted, self.asked(fits, [p] + circuit(delays, wires, kinds)))

    def none_fit(self, p, delays, wires, kinds=None):
        self.assertEqual([0], self.asked(fits, [p] + circuit(delays, wires, kinds)))


class Ordinary(FitsCase):
    def test_the_greatest_of_several(self):
        self.fits_by([0, 1, 1], 8, *SMALL)
        self.fits_by([0, 1, 1], GREATEST_NUMBER, *SMALL)

    def test_a_tighter_period_lets_less(self):
        self.fits_by([0, 0, 1], 7, *SMALL)
        self.fits_by([0, 0, 1], 5, *SMALL)

    def test_none_below_the_slowest_part(self):
        self.none_fit(4, *SMALL)
        self.none_fit(0, *SMALL)

    def test_the_period_itself_and_one_less(self):
        delays, wires = [0, 3, 5], [(0, 1, 2), (1, 2, 0), (2, 0, 0)]
        self.assertEqual([8], period(*circuit(delays, wires)))
        self.fits_by([0, 0, 0], 8, delays, wires)
        self.fits_by([0, -1, 0], 7, delays, wires)
        self.fits_by([0, -1, 0], 5, delays, wires)
        self.none_fit(4, delays, wires)

    def test_shifts_below_and_above_nothing(self):
        delays, wires = [0, 4, 4, 4], [(0, 1, 2), (1, 2, 0), (2, 3, 0), (3, 0, 1)]
        self.fits_by([0, 1, 1, 1], 12, delays, wires)
        self.fits_by([0, 0, 1, 1], 8, delays, wires)
        self.fits_by([0, -1, 0, 1], 4, delays, wires)
        self.none_fit(3, delays, wires)

    def test_registers_before_the_parts_alone(self):
        self.fits_by([0, -2, -1, 0], 4, [0, 4, 4, 4], [(0, 1, 3), (1, 2, 0), (2, 3, 0), (3, 0, 0)])

    def test_registers_behind_the_parts_alone(self):
        delays, wires = [0, 4, 4, 4], [(0, 1, 0), (1, 2, 0), (2, 3, 0), (3, 0, 3)]
        self.fits_by([0, 3, 3, 3], 12, delays, wires)
        self.fits_by([0, 1, 2, 3], 4, delays, wires)

    def test_a_ring_may_be_too_slow_where_no_part_is(self):
        self.none_fit(7, [0, 3, 5], [(0, 1, 4), (1, 2, 1), (2, 1, 0), (2, 0, 4)])
        self.fits_by([0, 5, 4], 8, [0, 3, 5], [(0, 1, 4), (1, 2, 1), (2, 1, 0), (2, 0, 4)])

    def test_a_way_through_the_outside_counts(self):
        # Wherever the one register is, the way from behind it to before it goes through all parts.
        self.fits_by([0, 0, 0], 8, [0, 3, 5], [(0, 1, 1), (1, 2, 0), (2, 0, 0)])
        self.none_fit(7, [0, 3, 5], [(0, 1, 1), (1, 2, 0), (2, 0, 0)])
        self.fits_by([0, 1, 0], 5, [0, 3, 5], [(0, 1, 0), (1, 0, 1), (0, 2, 1), (2, 0, 0)])

    def test_of_equal_ways_the_slower_counts(self):
        delays = [0, 2, 9, 1, 2]
        wires = [(0, 1, 1), (1, 2, 0), (1, 3, 0), (2, 4, 0), (3, 4, 0), (4, 0, 1)]
        for order in itertools.permutations(wires):
            self.fits_by([0, 1, 1, 1, 1], 13, delays, list(order))
            self.fits_by([0, 0, 1, 1, 1], 12, delays, list(order))

    def test_a_slow_way_with_more_registers_does_not_bind(self):
        delays = [0, 5, 5, 5]
        wires = [(0, 1, 1), (1, 2, 1), (2, 3, 1), (1, 3, 0), (3, 0, 0)]
        self.fits_by([0, 0, 1, 0], 10, delays, wires)

    def test_the_greatest_delays(self):
        delays = [0] + [65535] * 15
        for many in (1, 2):
            wires = [(0, 1, many)] + ring(16, 0)[1:]
            self.fits_by([0] * 16, 15 * 65535, delays, wires)
        self.fits_by([0, -1] + [0] * 14, 15 * 65535 - 1, delays, [(0, 1, 2)] + ring(16, 0)[1:])
        self.none_fit(15 * 65535 - 1, delays, [(0, 1, 1)] + ring(16, 0)[1:])
        self.none_fit(65534, delays, [(part, (part + 1) % 16, 8) for part in range(16)])

    def test_kinds_do_not_matter(self):
        for kinds in itertools.product(range(4), repeat=3):
            self.fits_by([0, 0, 1], 7, *SMALL, kinds)


class Edges(FitsCase):
    def test_the_outside_alone(self):
        for p in (0, 1, GREATEST_NUMBER):
            self.fits_by([0], p, [0], [])
            self.fits_by([0], p, [0], [(0, 0, 1)])
            self.fits_by([0], p, [0], [(0, 0, 8)] * 48)

    def test_sixteen_parts_and_forty_eight_wires(self):
        wires = [wire for wire in ring(16, 8) for _ in range(3)]
        self.assertEqual(48, len(wires))
        delays = [0] + [10] * 15
        self.fits_by([0] + [8] * 15, 150, delays, wires)
        self.fits_by([0, 1, 2, 2, 3, 3, 4, 4, 5, 5, 6, 6, 7, 7, 8, 8], 20, delays, wires)
        self.none_fit(19, delays, wires)

    def test_a_wire_may_have_more_than_eight_then(self):
        delays, wires = [0, 1, 1], [(0, 1, 8), (1, 2, 8), (2, 0, 8)]
        self.fits_by([0, 16, 8], 2, delays, wires)
        self.assertEqual([24, 0, 0], [w[2] for w in shifted(wires, [0, 16, 8])])
        self.fits_by([0, 15, 8], 1, delays, wires)
        self.fits_by([0, 120] + [8 * k for k in range(14, 0, -1)], 15, [0] + [1] * 15,
                     [(part, (part + 1) % 16, 8) for part in range(16)])

    def test_two_wires_between_the_same_parts(self):
        self.fits_by([0, 1, 1], 8, [0, 3, 5], [(0, 1, 1), (1, 2, 0), (1, 2, 0), (2, 0, 1)])
        for wires in ([(1, 2, 0), (1, 2, 2)], [(1, 2, 2), (1, 2, 0)]):
            self.fits_by([0, 1, 1], 8, [0, 3, 5], [(0, 1, 1)] + wires + [(2, 0, 1)])
            self.fits_by([0, 0, 1], 7, [0, 3, 5], [(0, 1, 1)] + wires + [(2, 0, 1)])
        self.fits_by([0, 2, 1], 8, [0, 3, 5], [(0, 1, 1), (1, 2, 1), (1, 2, 3), (2, 0, 1), (2, 0, 2)])

    def test_a_wire_from_a_part_to_itself(self):
        self.fits_by([0, 1], 3, [0, 3], [(0, 1, 1), (1, 1, 1), (1, 0, 1)])
        self.fits_by([0, 1], 3, [0, 3], [(0, 1, 1), (1, 1, 8), (1, 0, 1), (0, 0, 1)])
        self.none_fit(2, [0, 3], [(0, 1, 1), (1, 1, 8), (1, 0, 1)])

    def test_parts_without_delay(self):
        self.fits_by([0, 1, 1], 0, [0, 0, 0], SMALL[1])
        self.fits_by([0, 0, 1], 5, [0, 3, 5], SMALL[1])
        self.fits_by([0, 1, 1], 5, [0, 0, 5], SMALL[1])
        self.none_fit(4, [0, 0, 5], SMALL[1])


class Refusals(FitsCase):
    def test_p_below_nothing(self):
        for p in (-1, -2, LEAST_NUMBER):
            self.assertEqual([-2], self.asked(fits, [p] + circuit(*SMALL)))
            self.assertEqual([-2], self.asked(fits, [p] + circuit([0], [])))
            self.refused(fits, [p])

    def test_no_circuit(self):
        for p in (0, 8, GREATEST_NUMBER):
            self.refused(fits, [p])


class AgainstTheWords(FitsCase):
    def check(self, delays, wires):
        """Each p worth asking; how often there were none."""
        choices = told_choices(delays, wires)
        none = 0
        for p in worth_asking(delays, choices):
            wanted = told_fits(p, choices)
            self.assertEqual(wanted, fits(p, *circuit(delays, wires)), (p, delays, wires))
            none += wanted == [0]
        return none

    def test_all_small_circuits(self):
        for n, m in ((2, 2), (2, 3), (3, 3), (3, 4)):
            every = [wire for wire in itertools.product(range(n), range(n), (0, 1, 2)) if n == 2 or wire[2] < 2]
            for wires in itertools.combinations_with_replacement(every, m):
                if told_circuit([0, 3, 5][:n], wires, [0] * n):
                    self.check([0, 3, 5][:n], list(wires))

    def test_larger_circuits(self):
        none = 0
        for delays, wires in some_circuits(2, 150, 5, 5):
            none += self.check(delays, wires)
        self.assertGreater(none, 100)

    def test_the_greatest_circuits(self):
        for delays, wires in great_circuits(3, 12):
            lists = circuit(delays, wires)
            self.assertTrue(told_circuit(delays, wires, lists[2]))
            now = max(slowest_from(delays, wires))
            for p in (max(delays) - 1, max(delays), (now + max(delays)) // 2, now - 1, now, GREATEST_NUMBER):
                self.assertEqual(lowered_shifts(p, delays, wires), self.asked(fits, [p] + lists))


class FewSteps(unittest.TestCase):
    def test_too_many_shifts_and_ways_to_try(self):
        for delays, wires in great_circuits(4, 6):
            for p in (0, max(delays), sum(delays) // 4, GREATEST_NUMBER):
                self.assertIn(within_steps(200000, fits, p, *circuit(delays, wires))[0], (0, 1))

    def test_three_wires_from_each_part_to_the_next(self):
        wires = [wire for wire in ring(16, 8) for _ in range(3)]
        answer = within_steps(200000, fits, 20, *circuit([0] + [10] * 15, wires))
        self.assertEqual([1, 0, 1, 2, 2, 3, 3, 4, 4, 5, 5, 6, 6, 7, 7, 8, 8], answer)


class Interface(unittest.TestCase):
    def test_arguments(self):
        wanted = ["p", "counts", "delays", "kinds", "starts", "ends", "registers"]
        parameters = inspect.signature(fits).parameters
        self.assertEqual(wanted, list(parameters))
        for one in parameters.values():
            self.assertIs(one.default, inspect.Parameter.empty)
        answer = fits(**dict(zip(wanted, [7] + circuit(*SMALL))))
        self.assertEqual([1, 0, 0, 1] + [0] * 13, answer)

    def test_nothing_is_kept(self):
        many = [[8] + circuit(*SMALL), [7] + circuit(*SMALL), [4] + circuit(*SMALL), [-1] + circuit(*SMALL)]
        first = [fits(*args) for args in many]
        self.assertEqual([[0, 1, 1], [0, 0, 1], [], []], [answer[1:4] for answer in first])
        for args in many:
            fits(*args).append(1)
        self.assertEqual(list(reversed(first)), [fits(*args) for args in reversed(many)])

    def test_nothing_is_printed(self):
        out = io.StringIO()
        with contextlib.redirect_stdout(out), contextlib.redirect_stderr(out):
            for p in (-1, 4, 8):
                fits(p, *circuit(*SMALL))
        self.assertEqual("", out.getvalue())


if __name__ == "__main__":
    unittest.main()
