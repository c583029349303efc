"""Promise 3, and what the document says ahead of it."""

import contextlib
import inspect
import io
import itertools
import unittest

from stepcircuits.circuits import best, fits, period
from tests.helper import (
    CORRELATOR,
    CallCase,
    circuit,
    great_circuits,
    lowered_shifts,
    ring,
    shifted,
    some_circuits,
    told_best,
    told_choices,
    told_circuit,
    told_period,
    within_steps,
)

# A way of 3 and 5 between two registers, the second of which may go between them.
SMALL = ([0, 3, 5], [(0, 1, 1), (1, 2, 0), (2, 0, 1)])


class BestCase(CallCase):
    def best_is(self, p, shifts, delays, wires, kinds=None):
        lists = circuit(delays, wires, kinds)
        answer = self.asked(best, lists)
        self.assertEqual([p] + shifts + [0] * (16 - len(shifts)), answer)
        self.assertEqual([1] + answer[1:], fits(p, *lists))
        self.assertEqual([0] if p > 0 else [-2], fits(p - 1, *lists))


class Ordinary(BestCase):
    def test_a_period_that_can_be_less(self):
        self.assertEqual([8], period(*circuit(*SMALL)))
        self.best_is(5, [0, 0, 1], *SMALL)

    def test_a_period_that_cannot_be_less(self):
        self.best_is(8, [0, 0, 0], [0, 3, 5], [(0, 1, 1), (1, 2, 0), (2, 0, 0)])
        self.best_is(5, [0, 0, 0], [0, 3, 5], [(0, 1, 1), (1, 2, 1), (2, 0, 0)])

    def test_the_greatest_shifts_where_the_period_stays(self):
        self.best_is(5, [0, 1, 0], [0, 3, 5], [(0, 1, 0), (1, 0, 1), (0, 2, 1), (2, 0, 0)])
        self.best_is(5, [0, 3, 2], [0, 3, 5], [(0, 1, 2), (1, 2, 2), (2, 0, 2)])

    def test_a_ring_holds_the_period(self):
        self.best_is(8, [0, 5, 4], [0, 3, 5], [(0, 1, 4), (1, 2, 1), (2, 1, 0), (2, 0, 4)])

    def test_between_the_slowest_part_and_the_period(self):
        delays, wires = [0, 4, 3, 2], [(0, 1, 2), (1, 2, 0), (2, 3, 0), (3, 0, 0)]
        self.assertEqual([9], period(*circuit(delays, wires)))
        self.best_is(5, [0, -1, 0, 0], delays, wires)

    def test_the_known_circuit(self):
        self.assertEqual([24], period(*circuit(*CORRELATOR)))
        answer = self.asked(best, circuit(*CORRELATOR))
        self.assertEqual(13, answer[0])
        self.assertEqual(13, told_period(CORRELATOR[0], shifted(CORRELATOR[1], answer[1:])))
        self.assertEqual(told_best(told_choices(*CORRELATOR)), answer)

    def test_delays_of_nothing(self):
        self.best_is(0, [0, 1, 1], [0, 0, 0], SMALL[1])
        self.best_is(0, [0] + [1] * 15, [0] * 16, ring(16))
        self.best_is(5, [0, 1, 1], [0, 0, 5], SMALL[1])

    def test_delays_of_one(self):
        self.best_is(1, [0, 0, 1], [0, 1, 1], SMALL[1])
        self.best_is(1, [0, 1, 1], [0, 1, 0], SMALL[1])
        self.best_is(15, [0] + [1] * 15, [0] + [1] * 15, ring(16))

    def test_kinds_do_not_matter(self):
        for kinds in itertools.product(range(4), repeat=3):
            self.best_is(5, [0, 0, 1], *SMALL, kinds)


class Edges(BestCase):
    def test_the_outside_alone(self):
        self.best_is(0, [0], [0], [])
        self.best_is(0, [0], [0], [(0, 0, 1)])
        self.best_is(0, [0], [0], [(0, 0, 8)] * 48)

    def test_sixteen_parts_and_forty_eight_wires(self):
        wires = [wire for wire in ring(16, 8) for _ in range(3)]
        self.assertEqual(48, len(wires))
        shifts = [0, 1, 2, 2, 3, 3, 4, 4, 5, 5, 6, 6, 7, 7, 8, 8]
        self.best_is(20, shifts, [0] + [10] * 15, wires)

    def test_the_greatest_delays(self):
        delays = [0] + [65535] * 15
        self.best_is(15 * 65535, [0] + [1] * 15, delays, ring(16))
        self.best_is(8 * 65535, [0] + [1] * 7 + [2] * 8, delays, ring(16, 2))
        self.best_is(65535, [0, 1], [0, 65535], [(0, 1, 0), (1, 0, 1)])
        self.best_is(65535, [0, 0, 1], [0, 65535, 65535], SMALL[1])

    def test_wires_of_eight_registers(self):
        self.best_is(1, [0, 15, 8], [0, 1, 1], [(0, 1, 8), (1, 2, 8), (2, 0, 8)])
        wires = [(part, (part + 1) % 16, 8) for part in range(16)]
        self.best_is(9, [0] + [8 + 7 * (15 - part) for part in range(1, 16)], [0] + [9] * 15, wires)

    def test_a_wire_from_a_part_to_itself(self):
        self.best_is(3, [0, 1], [0, 3], [(0, 1, 1), (1, 1, 1), (1, 0, 1)])
        self.best_is(3, [0, 1], [0, 3], [(0, 1, 1), (1, 1, 8), (1, 0, 1), (0, 0, 1)])

    def test_two_wires_between_the_same_parts(self):
        self.best_is(5, [0, 0, 1], [0, 3, 5], [(0, 1, 1), (1, 2, 0), (1, 2, 0), (2, 0, 1)])
        for wires in ([(1, 2, 0), (1, 2, 2)], [(1, 2, 2), (1, 2, 0)]):
            self.best_is(5, [0, 0, 1], [0, 3, 5], [(0, 1, 1)] + wires + [(2, 0, 1)])


class Refusals(BestCase):
    def test_no_circuit(self):
        self.refused(best)


class AgainstTheWords(BestCase):
    def check(self, delays, wires):
        """Whether the period can be made less."""
        lists = circuit(delays, wires)
        wanted = told_best(told_choices(delays, wires))
        self.assertEqual(wanted, best(*lists), (delays, wires))
        self.assertEqual([1] + wanted[1:], fits(wanted[0], *lists))
        return wanted[0] < told_period(delays, wires)

    def test_all_small_circuits(self):
        for n, m in ((2, 2), (2, 3), (3, 3), (3, 4)):
            every = [wire for wire in itertools.product(range(n), range(n), (0, 1, 2)) if n == 2 or wire[2] < 2]
            for wires in itertools.combinations_with_replacement(every, m):
                if told_circuit([0, 3, 5][:n], wires, [0] * n):
                    self.check([0, 3, 5][:n], list(wires))

    def test_larger_circuits(self):
        less = 0
        for delays, wires in some_circuits(5, 200, 5, 5):
            less += self.check(delays, wires)
        self.assertGreater(less, 30)
        self.assertLess(less, 170)

    def test_the_greatest_circuits(self):
        for delays, wires in great_circuits(6, 12):
            answer = self.asked(best, circuit(delays, wires))
            self.assertEqual([1] + answer[1:], lowered_shifts(answer[0], delays, wires))
            self.assertEqual([0], lowered_shifts(answer[0] - 1, delays, wires))


class FewSteps(unittest.TestCase):
    def test_too_many_shifts_and_ways_to_try(self):
        for delays, wires in great_circuits(7, 6):
            answer = within_steps(400000, best, *circuit(delays, wires))
            self.assertEqual(17, len(answer))
            self.assertGreaterEqual(answer[0], max(delays))

    def test_three_wires_from_each_part_to_the_next(self):
        wires = [wire for wire in ring(16, 8) for _ in range(3)]
        answer = within_steps(400000, best, *circuit([0] + list(range(65521, 65536)), wires))
        # The ways are pairs, the last part with the first too, and the last but one alone.
        self.assertEqual(65532 + 65533, answer[0])


class Interface(unittest.TestCase):
    def test_arguments(self):
        wanted = ["counts", "delays", "kinds", "starts", "ends", "registers"]
        parameters = inspect.signature(best).parameters
        self.assertEqual(wanted, list(parameters))
        for one in parameters.values():
            self.assertIs(one.default, inspect.Parameter.empty)
        answer = best(**dict(zip(wanted, circuit(*SMALL))))
        self.assertEqual([5, 0, 0, 1] + [0] * 13, answer)

    def test_nothing_is_kept(self):
        many = [circuit(*SMALL), circuit([0], []), circuit([1], []), circuit(*CORRELATOR)]
        first = [best(*lists) for lists in many]
        self.assertEqual([5, 0, -2, 13], [answer[0] for answer in first])
        for lists in many:
            best(*lists).append(1)
        self.assertEqual(list(reversed(first)), [best(*lists) for lists in reversed(many)])

    def test_nothing_is_printed(self):
        out = io.StringIO()
        with contextlib.redirect_stdout(out), contextlib.redirect_stderr(out):
            best(*circuit(*SMALL))
            best(*circuit([1], []))
        self.assertEqual("", out.getvalue())


if __name__ == "__main__":
    unittest.main()
