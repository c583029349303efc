"""Promise 1, and what the document says ahead of it."""

import contextlib
import copy
import inspect
import io
import itertools
import unittest

from stepcircuits import circuits
from stepcircuits.circuits import period
from tests.helper import (
    GREATEST_NUMBER,
    LEAST_NUMBER,
    circuit,
    numbers,
    ring,
    told_circuit,
    told_period,
    untouched,
    within_steps,
)

SMALL = ([0, 3, 5], [(0, 1, 1), (1, 2, 0), (2, 0, 0)])


class PeriodCase(unittest.TestCase):
    def answers(self, wanted, lists):
        """The answer is this list, of plain numbers, and nothing that was handed in has changed."""
        before = copy.deepcopy(lists)
        answer = period(*untouched(lists))
        self.assertIs(type(answer), list)
        self.assertEqual([wanted], answer)
        self.assertIs(type(answer[0]), int)
        self.assertEqual([wanted], period(*lists))
        self.assertEqual(before, lists)

    def answers_of(self, wanted, delays, wires, kinds=None):
        self.answers(wanted, circuit(delays, wires, kinds))


class Ordinary(PeriodCase):
    def test_one_way(self):
        self.answers_of(8, *SMALL)

    def test_a_register_ends_a_way(self):
        self.answers_of(5, [0, 3, 5], [(0, 1, 1), (1, 2, 1), (2, 0, 0)])

    def test_several_ways_the_slowest_counts(self):
        delays = [0, 7, 2, 3, 9, 4]
        wires = [(0, 1, 1), (1, 2, 0), (2, 3, 1), (3, 4, 0), (4, 5, 0), (5, 0, 1)]
        self.answers_of(16, delays, wires)

    def test_ways_part_and_meet_again(self):
        delays = [0, 1, 10, 3, 2]
        wires = [(0, 1, 1), (1, 2, 0), (1, 3, 0), (2, 4, 0), (3, 4, 0), (4, 0, 1)]
        self.answers_of(13, delays, wires)
        self.answers_of(13, delays, list(reversed(wires)))

    def test_ways_of_unequal_length_meet(self):
        delays = [0, 1, 2, 4, 8]
        wires = [(0, 1, 1), (1, 4, 0), (1, 2, 0), (2, 3, 0), (3, 4, 0), (4, 0, 1)]
        self.answers_of(15, delays, wires)

    def test_a_long_way_of_fast_parts_is_slower_than_a_short_one(self):
        delays = [0, 5, 1, 1, 1, 1, 1, 1]
        wires = ring(8) + [(0, 2, 1), (1, 0, 0)]
        wires[:2] = [(0, 1, 1), (1, 2, 1)]
        self.answers_of(6, delays, wires)

    def test_a_way_begins_and_ends_anywhere(self):
        delays = [0, 1, 20, 30, 1]
        wires = [(0, 1, 0), (1, 2, 1), (2, 3, 0), (3, 4, 1), (4, 0, 0)]
        self.answers_of(50, delays, wires)

    def test_a_way_goes_on_through_the_outside(self):
        self.answers_of(9, [0, 4, 5], [(1, 0, 0), (0, 2, 0), (2, 1, 1)])
        self.answers_of(8, [0, 3, 5], [(0, 1, 0), (1, 2, 1), (2, 0, 0)])

    def test_parts_numbered_against_the_ways(self):
        delays = [0, 1, 2, 4, 8]
        wires = [(0, 4, 1), (4, 3, 0), (3, 2, 0), (2, 1, 0), (1, 0, 1)]
        self.answers_of(15, delays, wires)

    def test_two_wires_between_the_same_parts(self):
        self.answers_of(8, [0, 3, 5], [(0, 1, 1), (1, 2, 0), (1, 2, 0), (2, 0, 1)])
        self.answers_of(8, [0, 3, 5], [(0, 1, 1), (1, 2, 2), (1, 2, 0), (2, 0, 1)])
        self.answers_of(8, [0, 3, 5], [(0, 1, 1), (1, 2, 0), (1, 2, 2), (2, 0, 1)])
        self.answers_of(5, [0, 3, 5], [(0, 1, 1), (1, 2, 2), (1, 2, 1), (2, 0, 1)])

    def test_wires_to_and_fro(self):
        self.answers_of(8, [0, 3, 5], [(0, 1, 1), (1, 2, 0), (2, 1, 1), (2, 0, 1)])

    def test_a_wire_from_a_part_to_itself(self):
        self.answers_of(3, [0, 3], [(0, 1, 1), (1, 1, 1), (1, 0, 0)])
        self.answers_of(3, [0, 3], [(1, 1, 8), (0, 1, 0), (1, 0, 1), (0, 0, 2)])

    def test_a_part_alone_is_slower_than_every_way(self):
        self.answers_of(100, [0, 3, 5, 100], [(0, 1, 1), (1, 2, 0), (2, 3, 1), (3, 0, 1)])

    def test_delays_of_nothing(self):
        self.answers_of(0, [0, 0, 0], [(0, 1, 1), (1, 2, 0), (2, 0, 0)])
        self.answers_of(5, [0, 0, 5, 0], [(0, 1, 1), (1, 2, 0), (2, 3, 0), (3, 0, 0)])

    def test_the_greatest_delays(self):
        self.answers_of(65535, [0, 65535], [(0, 1, 0), (1, 0, 1)])
        self.answers_of(131070, [0, 65535, 65535], [(0, 1, 1), (1, 2, 0), (2, 0, 0)])
        self.answers_of(15 * 65535, [0] + [65535] * 15, ring(16))

    def test_kinds_do_not_matter(self):
        for kinds in itertools.product(range(4), repeat=3):
            self.answers_of(8, *SMALL, kinds)


class Edges(PeriodCase):
    def test_the_outside_alone(self):
        self.answers_of(0, [0], [])

    def test_the_outside_with_wires_to_itself(self):
        self.answers_of(0, [0], [(0, 0, 1)])
        self.answers_of(0, [0], [(0, 0, 8)] * 48)

    def test_sixteen_parts(self):
        self.answers_of(sum(range(16)), list(range(16)), ring(16))

    def test_forty_eight_wires(self):
        wires = ring(3)
        self.answers_of(8, [0, 3, 5], wires + [(2, 1, 1)] * 45)

    def test_sixteen_parts_and_forty_eight_wires(self):
        wires = ring(16) * 3
        self.assertEqual(48, len(wires))
        self.answers_of(sum(range(16)), list(range(16)), wires)

    def test_the_last_wire_counts(self):
        wires = [(0, 1, 1), (1, 2, 1), (2, 0, 1)] + [(2, 0, 1)] * 44
        self.answers_of(8, [0, 3, 5], wires + [(1, 2, 0)])

    def test_registers_at_the_edge(self):
        self.answers_of(3, [0, 3], [(0, 1, 0), (1, 0, 8)])
        self.answers_of(-2, [0, 3], [(0, 1, 0), (1, 0, 9)])
        self.answers_of(3, [0, 3], [(0, 1, 8), (1, 0, 8)])

    def test_kinds_at_the_edge(self):
        self.answers_of(8, *SMALL, [3, 3, 3])
        for part in range(3):
            kinds = [3, 3, 3]
            kinds[part] = 4
            self.answers_of(-2, *SMALL, kinds)


class NoCircuit(PeriodCase):
    def test_how_many_parts(self):
        wires = [(0, 0, 1), (0, 0, 1)]
        for n in (17, 18, 255, 256, -1, -16, LEAST_NUMBER, GREATEST_NUMBER):
            for some in ([], wires):
                lists = circuit([], some)
                lists[0][0] = n
                self.answers(-2, lists)

    def test_no_parts(self):
        self.answers_of(-2, [], [])
        self.answers_of(-2, [], [(0, 0, 1)])

    def test_how_many_wires(self):
        for m in (49, 50, 255, 256, -1, -48, LEAST_NUMBER, GREATEST_NUMBER):
            for delays in ([0], [0, 3], [0] * 16):
                lists = circuit(delays, [])
                lists[0][1] = m
                self.answers(-2, lists)

    def test_both_counts(self):
        for n in (0, 17, -1, LEAST_NUMBER, GREATEST_NUMBER):
            for m in (49, -1, LEAST_NUMBER, GREATEST_NUMBER):
                self.answers(-2, [[n, m], [], [], [], [], []])

    def test_the_outside_takes_its_time(self):
        self.answers_of(-2, [1], [])
        self.answers_of(-2, [1, 3, 5], SMALL[1])
        self.answers_of(-2, [65535, 3, 5], SMALL[1])

    def test_no_such_kind(self):
        for kind in (4, 5, 255):
            self.answers_of(-2, [0], [], [kind])
            for part in range(3):
                kinds = [0, 1, 2]
                kinds[part] = kind
                self.answers_of(-2, *SMALL, kinds)

    def test_a_wire_from_a_part_that_is_not_there(self):
        for start in (3, 4, 16, 255):
            self.answers_of(-2, SMALL[0], SMALL[1] + [(start, 1, 1)])
            self.answers_of(-2, SMALL[0], [(start, 1, 1)] + SMALL[1])
        self.answers_of(-2, [0], [(1, 0, 1)])
        self.answers_of(-2, [0] * 16, ring(16) + [(16, 0, 1)])

    def test_a_wire_to_a_part_that_is_not_there(self):
        for end in (3, 4, 16, 255):
            self.answers_of(-2, SMALL[0], SMALL[1] + [(1, end, 1)])
            self.answers_of(-2, SMALL[0], [(1, end, 1)] + SMALL[1])
        self.answers_of(-2, [0], [(0, 1, 1)])
        self.answers_of(-2, [0] * 16, ring(16) + [(0, 16, 1)])

    def test_a_wire_between_parts_that_are_not_there(self):
        self.answers_of(-2, SMALL[0], SMALL[1] + [(3, 3, 1)])
        self.answers_of(-2, SMALL[0], SMALL[1] + [(255, 255, 0)])

    def test_a_part_that_is_not_there_stands_for_none_that_is(self):
        for other in (3, 255):
            self.answers_of(-2, [0, 3, 5], [(0, 1, 1), (1, 0, 1), (0, 2, 1), (other, 0, 1)])
            self.answers_of(-2, [0, 3, 5], [(0, 1, 1), (1, 0, 1), (2, 0, 1), (0, other, 1)])

    def test_too_many_registers(self):
        for many in (9, 10, 128, 255):
            for place in range(3):
                wires = list(SMALL[1])
                wires[place] = wires[place][:2] + (many,)
                self.answers_of(-2, SMALL[0], wires)

    def test_one_does_not_come_to_the_outside(self):
        self.answers_of(-2, [0, 3], [(0, 1, 1)])
        self.answers_of(-2, [0, 3, 5], [(0, 1, 1), (1, 0, 1), (0, 2, 1)])
        self.answers_of(-2, [0, 3, 5, 1], [(0, 1, 1), (1, 0, 1), (0, 2, 1), (2, 3, 1), (3, 2, 1)])

    def test_one_does_not_come_from_the_outside(self):
        self.answers_of(-2, [0, 3], [(1, 0, 1)])
        self.answers_of(-2, [0, 3, 5], [(0, 1, 1), (1, 0, 1), (2, 0, 1)])
        self.answers_of(-2, [0, 3, 5, 1], [(0, 1, 1), (1, 0, 1), (2, 0, 1), (2, 3, 1), (3, 2, 1)])

    def test_parts_apart_from_all_others(self):
        self.answers_of(-2, [0, 0], [])
        self.answers_of(-2, [0] * 16, [])
        self.answers_of(-2, [0] * 16, ring(15))
        self.answers_of(-2, [0, 3, 5], [(0, 1, 1), (1, 0, 1), (2, 2, 1)])
        self.answers_of(-2, [0, 3, 5, 1], [(0, 1, 1), (1, 0, 1), (2, 3, 1), (3, 2, 1)])

    def test_a_wire_to_itself_without_a_register(self):
        self.answers_of(-2, [0], [(0, 0, 0)])
        for part in range(3):
            self.answers_of(-2, SMALL[0], SMALL[1] + [(part, part, 0)])
        self.answers_of(-2, [0, 3], [(0, 1, 1), (1, 0, 1), (1, 1, 1), (1, 1, 0)])

    def test_a_ring_without_a_register_through_the_outside(self):
        self.answers_of(-2, [0, 3], [(0, 1, 0), (1, 0, 0)])
        self.answers_of(-2, [0, 3], [(0, 1, 0), (1, 0, 1), (1, 0, 0)])
        for n in range(1, 17):
            self.answers_of(-2, [0] + [1] * (n - 1), ring(n, 0))

    def test_a_ring_without_a_register_elsewhere(self):
        wires = [(0, 1, 1), (1, 2, 0), (2, 1, 0), (2, 0, 1)]
        self.answers_of(-2, [0, 3, 5], wires)
        for first in range(1, 15):
            back = [(15, first, 0)]
            self.answers_of(-2, [0] + [1] * 15, ring(16) + back)
            self.answers_of(16 - 1, [0] + [1] * 15, ring(16) + [(15, first, 1)])

    def test_a_ring_of_parts_without_delay(self):
        self.answers_of(-2, [0, 0, 0], [(0, 1, 1), (1, 2, 0), (2, 1, 0), (2, 0, 1)])

    def test_a_refusal_is_a_new_list_each_time(self):
        lists = circuit([1], [])
        period(*lists).append(7)
        self.assertEqual([-2], period(*lists))


class AgainstTheWords(PeriodCase):
    def check(self, delays, wires, kinds):
        sound = told_circuit(delays, wires, kinds)
        self.answers(told_period(delays, wires) if sound else -2, circuit(delays, wires, kinds))
        return sound

    def test_all_small_circuits(self):
        for n, most in ((1, 3), (2, 4), (3, 3)):
            every = list(itertools.product(range(n), range(n), (0, 1)))
            for m in range(most + 1):
                for wires in itertools.product(every, repeat=m):
                    self.check([0, 3, 5][:n], list(wires), [0] * n)

    def test_larger_circuits(self):
        source = numbers(1)
        sound = 0
        for _ in range(1500):
            n = 2 + next(source) % 7
            delays = [0] + [next(source) % 50 for _ in range(n - 1)]
            kinds = [next(source) % 4 for _ in range(n)]
            wires = ring(n)
            for _ in range(next(source) % 10):
                wires.append((next(source) % n, next(source) % n, next(source) % 3))
            for _ in range(next(source) % 3):
                place = next(source) % len(wires)
                wires[place] = wires[place][:2] + (next(source) % 3,)
            sound += self.check(delays, wires, kinds)
        self.assertGreater(sound, 200)
        self.assertLess(sound, 1300)


class TooManyWays(PeriodCase):
    def within_steps(self, lists):
        """The answer, if the package comes to it in some steps: walking all ways takes millions."""
        return within_steps(100000, period, *lists)

    def test_three_wires_from_each_part_to_the_next(self):
        delays = [0] + [65535 - part for part in range(15)]
        wires = [wire for wire in ring(16) for _ in range(3)]
        lists = circuit(delays, wires)
        self.assertEqual([16, 48], lists[0])
        self.assertEqual([sum(delays)], self.within_steps(lists))
        self.assertEqual([sum(delays)], self.within_steps([list(reversed(one)) if k > 2 else one
                                                           for k, one in enumerate(lists)]))

    def test_many_ways_into_a_ring(self):
        wires = [wire for wire in ring(16) for _ in range(3)]
        wires[-1] = (15, 14, 0)
        self.assertEqual([-2], self.within_steps(circuit([0] * 16, wires)))


class Interface(unittest.TestCase):
    def test_arguments(self):
        wanted = ["counts", "delays", "kinds", "starts", "ends", "registers"]
        parameters = inspect.signature(period).parameters
        self.assertEqual(wanted, list(parameters))
        for one in parameters.values():
            self.assertIs(one.default, inspect.Parameter.empty)
        self.assertEqual([8], period(**dict(zip(wanted, circuit(*SMALL)))))

    def test_one_list_handed_in_twice(self):
        same = [0, 0]
        self.assertEqual([0], period([2, 2], same, same, [0, 1], [1, 0], [1, 1]))
        ones = [0]
        self.assertEqual([-2], period([1, 1], ones, ones, ones, ones, ones))

    def test_nothing_is_kept(self):
        many = [circuit(*SMALL), circuit([0], []), circuit([1], []), circuit([0, 9], [(0, 1, 0), (1, 0, 2)])]
        first = [period(*lists) for lists in many]
        self.assertEqual([[8], [0], [-2], [9]], first)
        for lists in many:
            period(*lists).append(1)
        self.assertEqual(list(reversed(first)), [period(*lists) for lists in reversed(many)])
        values = {name: value for name, value in vars(circuits).items() if not name.startswith("__")}
        for value in values.values():
            self.assertNotIsInstance(value, (list, dict, set))

    def test_changed_lists_are_read_anew(self):
        lists = circuit(*SMALL)
        self.assertEqual([8], period(*lists))
        lists[5][1] = 1
        self.assertEqual([5], period(*lists))
        lists[5][1] = 9
        self.assertEqual([-2], period(*lists))

    def test_nothing_is_printed(self):
        out = io.StringIO()
        with contextlib.redirect_stdout(out), contextlib.redirect_stderr(out):
            period(*circuit(*SMALL))
            period(*circuit([1], []))
        self.assertEqual("", out.getvalue())


if __name__ == "__main__":
    unittest.main()
