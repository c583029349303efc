"""Promise 6, and what the document says ahead of it."""

import contextlib
import inspect
import io
import itertools
import unittest

from stepcircuits.circuits import run
from tests.helper import (
    CORRELATOR,
    GREATEST_NUMBER,
    GREATEST_WORD,
    LEAST_NUMBER,
    CallCase,
    circuit,
    great_circuits,
    no_circuits,
    numbers,
    ring,
    some_circuits,
    some_words,
    told_circuit,
    told_run,
    within_steps,
)

SUM, XORED, PRODUCT, MIXED = range(4)
SMALL = [(0, 1, 1), (1, 2, 0), (2, 0, 1)]
# What 1 and 6 become at a part of kind 3.
MIXED_ONE = 2654435762
MIXED_SIX = (6 * 2654435761 + 1) % 2**32


class RunCase(CallCase):
    def run_of(self, given, wires, held, kinds, delays=None):
        """The words that are answered, behind how many they are."""
        self.assertEqual(sum(w[2] for w in wires), len(held))
        lists = circuit([0] * len(kinds) if delays is None else delays, wires, kinds)
        answer = self.asked(run, [len(given)] + lists + [list(held), list(given)])
        self.assertEqual(len(given) * sum(w[1] == 0 for w in wires), answer[0])
        self.assertEqual(answer[0], len(answer) - 1)
        return answer[1:]

    def runs(self, wanted, given, wires, held, kinds):
        self.assertEqual(wanted, self.run_of(given, wires, held, kinds))


class Kinds(RunCase):
    def gives(self, wanted, kind, brought):
        """A part of this kind gives so if its wires bring these words, by registers and without."""
        by_registers = [(0, 1, 1)] * len(brought) + [(1, 0, 0)]
        self.runs([wanted], [77], by_registers, brought, [SUM, kind])
        # A part to which one wire leads gives on what this brings.
        parts = range(2, len(brought) + 2)
        without = [(0, part, 1) for part in parts] + [(part, 1, 0) for part in parts] + [(1, 0, 0)]
        self.runs([wanted], [77], without, brought, [SUM, kind] + [SUM] * len(brought))

    def test_the_sum(self):
        self.gives(60, SUM, [10, 20, 30])
        self.gives(7, SUM, [7])
        self.gives(0, SUM, [0])
        self.gives(GREATEST_WORD, SUM, [GREATEST_WORD])

    def test_the_sum_modulo(self):
        self.gives(0, SUM, [GREATEST_WORD, 1])
        self.gives(4, SUM, [GREATEST_WORD, 5])
        self.gives(0, SUM, [2147483648, 2147483648])
        self.gives(GREATEST_WORD - 1, SUM, [GREATEST_WORD] * 2)
        self.gives(GREATEST_WORD - 13, SUM, [GREATEST_WORD] * 14)

    def test_xored(self):
        self.gives(6, XORED, [12, 10])
        self.gives(7, XORED, [7])
        self.gives(0, XORED, [7, 7])
        self.gives(7, XORED, [7, 7, 7])
        self.gives(0, XORED, [GREATEST_WORD, GREATEST_WORD])
        self.gives(GREATEST_WORD, XORED, [GREATEST_WORD, 0])
        self.gives(GREATEST_WORD - 5, XORED, [GREATEST_WORD, 5])

    def test_the_product(self):
        self.gives(6000, PRODUCT, [10, 20, 30])
        self.gives(7, PRODUCT, [7])
        self.gives(0, PRODUCT, [0])
        self.gives(0, PRODUCT, [7, 0])
        self.gives(GREATEST_WORD, PRODUCT, [GREATEST_WORD, 1])
        self.gives(4294836225, PRODUCT, [65535, 65535])

    def test_the_product_modulo(self):
        self.gives(0, PRODUCT, [65536, 65536])
        self.gives(1, PRODUCT, [GREATEST_WORD, GREATEST_WORD])
        self.gives(GREATEST_WORD - 1, PRODUCT, [GREATEST_WORD, 2])
        self.gives(GREATEST_WORD, PRODUCT, [GREATEST_WORD] * 13)

    def test_the_sum_times_a_number_and_one(self):
        self.gives(1, MIXED, [0])
        self.gives(MIXED_ONE, MIXED, [1])
        self.gives(1013904227, MIXED, [2])
        self.gives(MIXED_SIX, MIXED, [1, 2, 3])
        self.gives(1640531536, MIXED, [GREATEST_WORD])
        self.gives(1, MIXED, [GREATEST_WORD, 1])
        self.gives((14 * GREATEST_WORD * 2654435761 + 1) % 2**32, MIXED, [GREATEST_WORD] * 14)

    def test_wires_by_registers_and_without_at_one_part(self):
        wires = [(0, 1, 0), (0, 1, 1), (0, 1, 2), (0, 1, 0), (1, 0, 1)]
        held = [5, 6, 7, 9]
        self.runs([9, 212], [100, 0], wires, held, [SUM, SUM])
        self.runs([9, 2], [100, 0], wires, held, [SUM, XORED])
        self.runs([9, 350000], [100, 0], wires, held, [SUM, PRODUCT])
        self.runs([9, (212 * 2654435761 + 1) % 2**32], [100, 0], wires, held, [SUM, MIXED])

    def test_each_part_has_its_own(self):
        wires = [(0, part, 0) for part in (1, 1, 2, 2, 3, 3, 4, 4)] + [(part, 0, 1) for part in (1, 2, 3, 4)]
        held = [9, 8, 7, 6]
        self.runs(held + [6, 0, 9, MIXED_SIX], [3, 4], wires, held, [SUM, SUM, XORED, PRODUCT, MIXED])
        self.runs(held + [MIXED_SIX, 9, 0, 6], [3, 4], wires, held, [SUM, MIXED, PRODUCT, XORED, SUM])

    def test_delays_do_not_matter(self):
        for delays in ([0, 0, 0], [0, 65535, 65535], [0, 3, 5]):
            self.assertEqual([9, 8, 1], self.run_of([1, 2, 3], SMALL, [8, 9], [SUM] * 3, delays))


class TheOutside(RunCase):
    def test_it_gives_what_is_given(self):
        given = [0, 1, GREATEST_WORD, 4, 5]
        self.runs([9, 0, 1, GREATEST_WORD, 4], given, [(0, 1, 0), (1, 0, 1)], [9], [SUM, SUM])

    def test_whatever_its_wires_bring_and_whatever_its_kind(self):
        wires = [(0, 1, 0), (1, 0, 1), (1, 0, 3), (0, 0, 1)]
        wanted = [50, 53, 60] + [10, 52, 10] + [11, 51, 11] + [12, 10, 12]
        for kind in range(4):
            self.runs(wanted, [10, 11, 12, 13], wires, [50, 51, 52, 53, 60], [kind, SUM])

    def test_what_comes_to_it_without_a_register_ends_there(self):
        # Part 2 is brought what is given, not what part 1 gave to the outside.
        for kind in range(4):
            self.runs([9, 1, 2], [1, 2, 3], [(1, 0, 0), (0, 2, 0), (2, 1, 1)], [9], [kind, SUM, SUM])

    def test_from_the_outside_to_the_outside(self):
        for kind in range(4):
            self.runs([6, 5, 1, 2], [1, 2, 3, 4], [(0, 0, 2)], [5, 6], [kind])
            self.runs([5, 7, 1, 6, 2, 1], [1, 2, 3], [(0, 0, 1), (0, 0, 2)], [5, 6, 7], [kind])

    def test_no_wire_leads_there(self):
        for t in (0, 1, 5, 256):
            for kind in range(4):
                self.assertEqual([0], self.asked(run, [t] + circuit([0], [], [kind]) + [[], [3] * t]))


class Wires(RunCase):
    def test_without_a_register(self):
        self.runs([9, 1, 2], [1, 2, 3], [(0, 1, 1), (1, 0, 0)], [9], [SUM, SUM])
        self.runs([9, 1, 2], [1, 2, 3], [(0, 1, 0), (1, 0, 1)], [9], [SUM, SUM])

    def test_the_last_register_is_brought_first(self):
        given = [1, 2, 3, 4, 5]
        self.runs([9, 8, 7, 1, 2], given, [(0, 1, 3), (1, 0, 0)], [7, 8, 9], [SUM, SUM])
        self.runs([9, 8, 7, 1, 2], given, [(0, 1, 0), (1, 0, 3)], [7, 8, 9], [SUM, SUM])

    def test_eight_registers(self):
        given = list(range(21, 31))
        wanted = [18, 17, 16, 15, 14, 13, 12, 11, 21, 22]
        self.runs(wanted, given, [(0, 1, 0), (1, 0, 8)], list(range(11, 19)), [SUM, SUM])

    def test_what_is_held_goes_wire_by_wire(self):
        given = list(range(1, 9))
        held = list(range(11, 17))
        self.runs([16, 15, 14, 13, 12, 11, 1, 2], given, [(0, 1, 2), (1, 2, 3), (2, 0, 1)], held, [SUM] * 3)
        self.runs([11, 16, 15, 14, 13, 12, 1, 2], given, [(2, 0, 1), (0, 1, 2), (1, 2, 3)], held, [SUM] * 3)

    def test_what_is_held_beside_wires_without_a_register(self):
        wires = [(1, 2, 0), (0, 1, 1), (2, 3, 0), (3, 0, 2), (3, 0, 0)]
        self.runs([13, 11, 12, 1, 11, 2], [1, 2, 3], wires, [11, 12, 13], [SUM] * 4)

    def test_from_a_part_to_itself(self):
        wires = [(0, 1, 0), (1, 1, 1), (1, 0, 1)]
        self.runs([0, 101, 103, 106], [1, 2, 3, 4], wires, [100, 0], [SUM, SUM])
        self.runs([0, 6, 4, 0], [1, 2, 4, 8], wires, [7, 0], [SUM, XORED])
        self.runs([0, 200, 600, 3000], [2, 3, 5, 7], wires, [100, 0], [SUM, PRODUCT])
        wires = [(0, 1, 0), (1, 1, 2), (1, 0, 1)]
        self.runs([0, 201, 102, 204, 106], [1, 2, 3, 4, 5], wires, [100, 200, 0], [SUM, SUM])

    def test_two_between_the_same_parts(self):
        self.runs([13, 12, 3, 5], [1, 2, 3, 4], [(0, 1, 1), (0, 1, 2), (1, 0, 0)], [10, 11, 3], [SUM, SUM])
        self.runs([3, 2, 4, 6], [1, 2, 3, 4], [(0, 1, 0), (0, 1, 0), (1, 0, 1)], [3], [SUM, SUM])

    def test_those_that_lead_outside_in_their_order(self):
        ahead = [(2, 0, 1), (0, 1, 0), (1, 0, 1), (0, 2, 0), (0, 0, 1), (2, 0, 1)]
        self.runs([5, 6, 7, 8] + [MIXED_ONE, 1, 1, MIXED_ONE], [1, 2], ahead, [5, 6, 7, 8], [SUM, SUM, MIXED])
        turned = list(reversed(ahead))
        self.runs([5, 6, 7, 8] + [MIXED_ONE, 1, 1, MIXED_ONE], [1, 2], turned, [5, 6, 7, 8], [SUM, SUM, MIXED])
        self.runs([5, 6, 7, 8] + [1, MIXED_ONE, 1, 1], [1, 2], ahead, [5, 6, 7, 8], [SUM, MIXED, SUM])


class Order(RunCase):
    def test_ways_without_a_register_over_all_parts(self):
        for turn in range(15):
            for step in (1, 7, 14):
                order = [1 + (part * step + turn) % 15 for part in range(15)]
                # Each part but the first is brought twice what the one before it gives.
                wires = [(0, order[0], 0), (order[14], 0, 1)]
                wires += [wire for pair in zip(order, order[1:]) for wire in [pair + (0,)] * 2]
                self.runs([9, 16384, 49152], [1, 3, 5], wires, [9], [SUM] * 16)
                self.runs([9, 16384, 49152], [1, 3, 5], list(reversed(wires)), [9], [SUM] * 16)

    def test_ways_of_unequal_length_meet(self):
        # Part 1 waits for part 4, and this one for parts 2 and 3.
        wires = [(0, 1, 0), (4, 1, 0), (3, 4, 0), (2, 4, 0), (2, 3, 0), (0, 2, 0), (1, 0, 1)]
        for order in itertools.permutations(wires):
            lists = circuit([0] * 5, order, [SUM, PRODUCT, SUM, SUM, SUM])
            self.assertEqual([3, 9, 2, 8], run(3, *lists, [9], [1, 2, 3]))


class Ticks(RunCase):
    def test_none(self):
        self.assertEqual([0], self.asked(run, [0] + circuit([0, 3, 5], SMALL) + [[8, 9], []]))
        self.assertEqual([0], self.asked(run, [0] + circuit([0], [(0, 0, 1)]) + [[8], []]))
        wires = [wire for wire in ring(16, 8) for _ in range(3)]
        self.assertEqual([0], self.asked(run, [0] + circuit([0] * 16, wires) + [[1] * 24, []]))

    def test_one(self):
        self.assertEqual([1, 9], self.asked(run, [1] + circuit([0, 3, 5], SMALL) + [[8, 9], [1]]))

    def test_all(self):
        given = list(range(1000, 1256))
        self.runs([9, 8] + given[:254], given, SMALL, [8, 9], [SUM] * 3)
        self.runs([9, 8] + given[:253], given[:255], SMALL, [8, 9], [SUM] * 3)

    def test_fewer_ticks_answer_as_much_of_it(self):
        source = numbers(20)
        kinds = [0, 1, 2, 3, 0, 1, 2, 3]
        held = some_words(source, 4)
        given = some_words(source, 20)
        whole = self.run_of(given, CORRELATOR[1], held, kinds)
        for t in range(21):
            self.runs(whole[:t], given[:t], CORRELATOR[1], held, kinds)


class Edges(RunCase):
    def as_told(self, given, wires, held, kinds):
        self.runs(told_run(given, wires, held, kinds), given, wires, held, kinds)

    def test_as_many_of_all_as_can_be(self):
        source = numbers(21)
        kinds = [3, 2, 1, 0] * 4
        for _, wires in great_circuits(22, 3):
            wires = [(u, v, 8) for u, v, _ in wires]
            self.assertEqual((16, 48), (len(kinds), len(wires)))
            self.as_told(some_words(source, 256), wires, some_words(source, 384), kinds)

    def test_all_wires_lead_outside(self):
        source = numbers(23)
        answer = self.run_of(some_words(source, 256), [(0, 0, 8)] * 48, list(range(384)), [0])
        self.assertEqual(256 * 48, len(answer))
        self.assertEqual(list(range(7, 384, 8)), answer[:48])

    def test_nothing_and_the_greatest_words(self):
        wires = [(0, 1, 1), (0, 1, 0), (1, 2, 1), (1, 2, 0), (2, 0, 1), (2, 1, 1)]
        for kinds in itertools.product(range(4), repeat=2):
            for word, other in itertools.product((0, GREATEST_WORD), repeat=2):
                self.as_told([word] * 6, wires, [other] * 4, [0, *kinds])
                self.as_told([word, other] * 3, wires, [other, word] * 2, [0, *kinds])

    def test_the_outside_alone(self):
        self.as_told([], [], [], [0])
        self.as_told([1, 2, 3], [], [], [3])
        self.as_told([1, 2, 3], [(0, 0, 1)], [GREATEST_WORD], [2])


class Refusals(RunCase):
    def test_too_few_ticks_and_too_many(self):
        for t in (-1, -2, -256, LEAST_NUMBER, 257, 258, 512, GREATEST_NUMBER):
            self.assertEqual([-2], self.asked(run, [t] + circuit([0, 3, 5], SMALL) + [[8, 9], []]))
            self.assertEqual([-2], self.asked(run, [t] + circuit([0], []) + [[], []]))
            self.no_circuit(t, [])

    def test_no_circuit(self):
        for t in (0, 1, 256):
            self.no_circuit(t, [5] * t)

    def no_circuit(self, t, given):
        for why, lists in no_circuits():
            with self.subTest(why=why, t=t):
                held = list(range(sum(lists[5])))
                self.assertEqual([-2], self.asked(run, [t] + lists + [held, list(given)]))

    def test_as_many_registers_as_can_be_told(self):
        lists = circuit([0], [(0, 0, 255)] * 48)
        self.assertEqual([-2], self.asked(run, [2] + lists + [[7] * 12240, [1, 2]]))
        self.assertEqual([-2], self.asked(run, [257] + lists + [[7] * 12240, []]))


class AgainstTheWords(RunCase):
    def check(self, given, wires, held, kinds, delays):
        wanted = told_run(given, wires, held, kinds)
        answer = run(len(given), *circuit(delays, wires, kinds), held, given)
        self.assertEqual([len(wanted)] + wanted, answer, (given, wires, held, kinds))

    def test_all_small_circuits(self):
        source = numbers(24)
        for n, m in ((1, 1), (1, 2), (2, 2), (2, 3), (3, 3), (3, 4)):
            every = [wire for wire in itertools.product(range(n), range(n), (0, 1, 2)) if n < 3 or wire[2] < 2]
            for wires in itertools.combinations_with_replacement(every, m):
                kinds = [next(source) % 4 for _ in range(n)]
                if told_circuit([0] * n, wires, kinds):
                    held = some_words(source, sum(w[2] for w in wires))
                    self.check(some_words(source, 5), wires, held, kinds, [0] * n)

    def test_larger_circuits(self):
        source = numbers(25)
        for delays, wires in some_circuits(26, 400, 8, 40, 20):
            kinds = [next(source) % 4 for _ in delays]
            held = some_words(source, sum(w[2] for w in wires))
            self.check(some_words(source, next(source) % 30), wires, held, kinds, delays)

    def test_the_greatest_circuits(self):
        source = numbers(27)
        for delays, wires in great_circuits(28, 15):
            kinds = [next(source) % 4 for _ in delays]
            held = some_words(source, sum(w[2] for w in wires))
            self.check(some_words(source, 40), wires, held, kinds, delays)


class FewSteps(unittest.TestCase):
    def test_three_wires_from_each_part_to_the_next(self):
        wires = [wire for wire in ring(16, 1) for _ in range(3)]
        answer = within_steps(1000000, run, 256, *circuit([0] * 16, wires), [5, 6, 7], [1] * 256)
        self.assertEqual([768, 5, 6, 7] + [3**15] * 765, answer)

    def test_the_longest_run(self):
        for delays, wires in great_circuits(29, 3):
            held = [1] * sum(w[2] for w in wires)
            answer = within_steps(1000000, run, 256, *circuit(delays, wires, [3] * 16), held, [1] * 256)
            self.assertEqual(answer[0], len(answer) - 1)


class Interface(unittest.TestCase):
    def test_arguments(self):
        wanted = ["t", "counts", "delays", "kinds", "starts", "ends", "registers", "held", "given"]
        parameters = inspect.signature(run).parameters
        self.assertEqual(wanted, list(parameters))
        for one in parameters.values():
            self.assertIs(one.default, inspect.Parameter.empty)
        answer = run(**dict(zip(wanted, [3] + circuit([0, 3, 5], SMALL) + [[8, 9], [1, 2, 3]])))
        self.assertEqual([3, 9, 8, 1], answer)

    def test_nothing_is_kept(self):
        lists = circuit([0, 3], [(0, 1, 0), (1, 1, 1), (1, 0, 1)])
        many = [[2] + lists + [[100, 0], [1, 2]], [2] + lists + [[0, 7], [1, 2]], [257] + lists + [[0, 7], []]]
        first = [run(*args) for args in many]
        self.assertEqual([[2, 0, 101], [2, 7, 1], [-2]], first)
        for args in many:
            run(*args).append(1)
        self.assertEqual(list(reversed(first)), [run(*args) for args in reversed(many)])

    def test_nothing_is_printed(self):
        out = io.StringIO()
        with contextlib.redirect_stdout(out), contextlib.redirect_stderr(out):
            for t in (-1, 2):
                run(t, *circuit([0, 3, 5], SMALL), [8, 9], [1, 2])
        self.assertEqual("", out.getvalue())


if __name__ == "__main__":
    unittest.main()
