"""Promise 5, and what the document says ahead of it."""

import contextlib
import inspect
import io
import itertools
import unittest

from stepcircuits.circuits import best, moved, period
from tests.helper import (
    CORRELATOR,
    CallCase,
    circuit,
    great_circuits,
    numbers,
    ring,
    shifted,
    some_circuits,
    told_circuit,
)

SMALL = ([0, 3, 5], [(0, 1, 1), (1, 2, 0), (2, 0, 1)])


def sixteen(shifts):
    return list(shifts) + [0] * (16 - len(shifts))


def told_moved(delays, wires, kinds, shifts):
    """What moved answers of a circuit, word by word as the document tells it."""
    after = shifted(wires, shifts)
    if shifts[0] != 0 or any(w[2] < 0 for w in after) or any(w[2] > 8 for w in after):
        return [-3]
    wanted = [0, len(delays), len(wires)]
    for values, many in (
        (delays, 16),
        (kinds, 16),
        ([w[0] for w in after], 48),
        ([w[1] for w in after], 48),
        ([w[2] for w in after], 48),
    ):
        wanted += [values[k] if k < len(values) else 0 for k in range(many)]
    return wanted


class MovedCase(CallCase):
    def check(self, delays, wires, shifts, kinds=None):
        """The answer is as told; given back is the list of the wires' registers, or None if it is refused."""
        lists = circuit(delays, wires, kinds)
        answer = self.asked(moved, lists + [sixteen(shifts)])
        self.assertEqual(told_moved(delays, wires, lists[2], sixteen(shifts)), answer)
        if answer == [-3]:
            return None
        self.assertEqual(179, len(answer))
        return answer[131:131 + len(wires)]


class Ordinary(MovedCase):
    def test_the_whole_answer(self):
        lists = circuit(*SMALL, [1, 2, 3])
        wanted = [0, 3, 3]
        wanted += [0, 3, 5] + [0] * 13
        wanted += [1, 2, 3] + [0] * 13
        wanted += [0, 1, 2] + [0] * 45
        wanted += [1, 2, 0] + [0] * 45
        wanted += [1, 1, 0] + [0] * 45
        self.assertEqual(wanted, self.asked(moved, lists + [sixteen([0, 0, 1])]))

    def test_registers_go_to_and_fro(self):
        self.assertEqual([2, 0, 0], self.check(*SMALL, [0, 1, 1]))
        self.assertEqual([0, 1, 1], self.check(*SMALL, [0, -1, 0]))
        self.assertEqual([0, 0, 2], self.check(*SMALL, [0, -1, -1]))
        self.assertEqual([0, 2, 0], self.check(*SMALL, [0, -1, 1]))

    def test_shifts_of_nothing_give_the_circuit_itself(self):
        lists = circuit(*CORRELATOR, [0, 1, 2, 3, 3, 2, 1, 0])
        answer = self.asked(moved, lists + [[0] * 16])
        self.assertEqual([0, 8, 11], answer[:3])
        self.assertEqual(lists[1:3], [answer[3:11], answer[19:27]])
        self.assertEqual(lists[3:], [answer[35:46], answer[83:94], answer[131:142]])
        self.assertEqual([0] * (8 + 8 + 37 * 3), answer[11:19] + answer[27:35] + answer[46:83] + answer[94:131]
                         + answer[142:])

    def test_the_shifts_of_best(self):
        lists = circuit(*CORRELATOR)
        p, *shifts = best(*lists)
        answer = moved(*lists, shifts)
        after = [[8, 11], answer[3:11], answer[19:27], answer[35:46], answer[83:94], answer[131:142]]
        self.assertEqual([p], period(*after))
        self.assertEqual(answer, moved(*after, [0] * 16))

    def test_there_and_back(self):
        for delays, wires in some_circuits(12, 60, 6, 12):
            lists = circuit(delays, wires)
            p, *shifts = best(*lists)
            answer = moved(*lists, shifts)
            if answer != [-3]:
                n, m = answer[1:3]
                after = lists[:5] + [answer[131:131 + m]]
                back = moved(*after, [-shift for shift in shifts])
                self.assertEqual(moved(*lists, [0] * 16), back)

    def test_delays_and_kinds_are_as_they_were(self):
        for kinds in itertools.product(range(4), repeat=3):
            self.assertEqual([1, 1, 0], self.check([0, 65535, 0], SMALL[1], [0, 0, 1], kinds))

    def test_the_period_is_not_asked(self):
        self.assertEqual([2, 0, 0], self.check([0, 65535, 65535], SMALL[1], [0, 1, 1]))


class Edges(MovedCase):
    def test_the_outside_alone(self):
        for kind in range(4):
            self.assertEqual([0, 1, 0] + [0] * 16 + [kind] + [0] * 159,
                             self.asked(moved, circuit([0], [], [kind]) + [[0] * 16]))
        self.assertEqual([8], self.check([0], [(0, 0, 8)], [0]))
        self.assertEqual([8] * 48, self.check([0], [(0, 0, 8)] * 48, [0]))

    def test_sixteen_parts_and_forty_eight_wires(self):
        wires = [wire for wire in ring(16, 8) for _ in range(3)]
        shifts = [0, 1, 2, 2, 3, 3, 4, 4, 5, 5, 6, 6, 7, 7, 8, 8]
        kinds = [3, 2, 1, 0] * 4
        after = self.check([0] + list(range(101, 116)), wires, shifts, kinds)
        steps = [shifts[k + 1] - shifts[k] for k in range(15)] + [0]
        self.assertEqual([step for step in steps for _ in range(3)], after)

    def test_a_wire_from_a_part_to_itself(self):
        wires = [(0, 1, 1), (1, 1, 5), (1, 0, 1), (0, 0, 8)]
        self.assertEqual([2, 5, 0, 8], self.check([0, 3], wires, [0, 1]))
        self.assertEqual([0, 5, 2, 8], self.check([0, 3], wires, [0, -1]))

    def test_two_wires_between_the_same_parts(self):
        wires = [(0, 1, 1), (0, 1, 3), (1, 0, 2)]
        self.assertEqual([3, 5, 0], self.check([0, 3], wires, [0, 2]))
        self.assertEqual([0, 2, 3], self.check([0, 3], wires, [0, -1]))
        self.assertIsNone(self.check([0, 3], wires, [0, -2]))
        self.assertIsNone(self.check([0, 3], wires, [0, 3]))

    def test_nothing_and_eight_are_let_through(self):
        wires = [(0, 1, 4), (1, 0, 4)]
        self.assertEqual([8, 0], self.check([0, 3], wires, [0, 4]))
        self.assertEqual([0, 8], self.check([0, 3], wires, [0, -4]))

    def test_behind_the_last_part(self):
        wanted = moved(*circuit(*SMALL), sixteen([0, 0, 1]))
        for other in (1, -1, 127, -128):
            for place in range(3, 16):
                shifts = sixteen([0, 0, 1])
                shifts[place] = other
                self.assertEqual(wanted, self.asked(moved, circuit(*SMALL) + [shifts]))
            shifts = [0, 0, 1] + [other] * 13
            self.assertEqual(wanted, self.asked(moved, circuit(*SMALL) + [shifts]))
            self.assertEqual([0, 1] + [0] * 177, self.asked(moved, circuit([0], []) + [[0] + [other] * 15]))

    def test_the_last_part_is_looked_at(self):
        wires = ring(16)
        self.assertEqual([0] * 14 + [1, 0], self.check([0] * 16, wires, [0] * 15 + [1]))
        self.assertIsNone(self.check([0] * 16, wires, [0] * 15 + [2]))
        self.assertIsNone(self.check([0] * 16, wires, [0] * 15 + [-1]))


class Refusals(MovedCase):
    def test_the_outside_is_shifted(self):
        for shift in (1, -1, 127, -128):
            self.assertIsNone(self.check(*SMALL, [shift, 0, 0]))
            # With all parts shifted alike every wire would have as many registers as before.
            self.assertIsNone(self.check(*SMALL, [shift] * 16))
            self.assertIsNone(self.check([0], [], [shift]))
            self.assertIsNone(self.check([0], [(0, 0, 1)], [shift]))

    def test_a_wire_would_have_too_few(self):
        self.assertIsNone(self.check(*SMALL, [0, 1, 0]))
        self.assertIsNone(self.check(*SMALL, [0, 0, 2]))
        self.assertIsNone(self.check(*SMALL, [0, -2, 0]))
        self.assertIsNone(self.check([0, 3], [(0, 1, 1), (1, 0, 0)], [0, 1]))
        self.assertIsNone(self.check([0, 3], [(0, 1, 0), (1, 0, 1)], [0, -1]))

    def test_a_wire_would_have_too_many(self):
        wires = [(0, 1, 4), (1, 0, 8)]
        self.assertEqual([8, 4], self.check([0, 3], wires, [0, 4]))
        self.assertIsNone(self.check([0, 3], wires, [0, 5]))
        self.assertIsNone(self.check([0, 3], wires, [0, -1]))
        self.assertIsNone(self.check([0, 3], [(0, 1, 8), (1, 0, 1)], [0, 1]))

    def test_each_wire_is_looked_at(self):
        for place in range(48):
            wires = [(0, 1, 4), (1, 0, 4)] * 24
            wires[place] = (place % 2, 1 - place % 2, 3)
            self.assertIsNone(self.check([0, 3], wires, [0, 4 if place % 2 else -4]))
            wires[place] = (place % 2, 1 - place % 2, 5)
            self.assertIsNone(self.check([0, 3], wires, [0, -4 if place % 2 else 4]))

    def test_shifts_at_the_ends(self):
        for shifts in ([0, 127, 127], [0, -128, -128], [0, 127, -128], [0, -128, 127], [-128, 127, 0], [127] * 16):
            self.assertIsNone(self.check(*SMALL, shifts))

    def test_no_circuit(self):
        self.refused(moved, behind=[[0] * 16])

    def test_no_circuit_goes_before_no_shifts(self):
        for shifts in ([1] + [0] * 15, [127] * 16, [-128] * 16, [0] + [127, -128] * 7 + [127]):
            self.refused(moved, behind=[shifts])

    def test_shifts_that_would_mend_it(self):
        # By these shifts there would be no wire with 9 registers, and no ring without one at that wire.
        lists = circuit([0, 3], [(0, 1, 9), (1, 0, 0)])
        self.assertEqual([-2], self.asked(moved, lists + [sixteen([0, -1])]))
        lists = circuit([0, 3], [(0, 1, 0), (1, 0, 0)])
        self.assertEqual([-2], self.asked(moved, lists + [[0] * 16]))


class AgainstTheWords(MovedCase):
    def test_small_shifts(self):
        done = 0
        for delays, wires in some_circuits(13, 30, 4, 6):
            for shifts in itertools.product((-1, 0, 1), repeat=len(delays)):
                done += self.check(delays, wires, shifts) is not None
        self.assertGreater(done, 100)

    def test_the_greatest_circuits(self):
        source = numbers(14)
        done = 0
        for delays, wires in great_circuits(15, 30):
            kinds = [next(source) % 4 for _ in range(16)]
            # Registers go back over the outside's wires alone, or past one part.
            part = next(source) % 16
            for shifts in ([0] + [1] * 15, [0] + [-1] * 15, [int(one == part) for one in range(16)], [0] * 16):
                after = self.check(delays, wires, shifts, kinds)
                if after is not None:
                    done += 1
                    parts = [(u, v, many) for (u, v, _), many in zip(wires, after)]
                    self.assertTrue(told_circuit(delays, parts, kinds))
        self.assertGreater(done, 30)


class Interface(unittest.TestCase):
    def test_arguments(self):
        wanted = ["counts", "delays", "kinds", "starts", "ends", "registers", "shifts"]
        parameters = inspect.signature(moved).parameters
        self.assertEqual(wanted, list(parameters))
        for one in parameters.values():
            self.assertIs(one.default, inspect.Parameter.empty)
        answer = moved(**dict(zip(wanted, circuit(*SMALL) + [[0] * 16])))
        self.assertEqual([0, 3, 3, 0, 3, 5], answer[:6])

    def test_the_answer_is_apart_from_what_is_handed_in(self):
        lists = circuit([0] * 16, [(0, 0, 1)] * 32 + ring(16))
        answer = moved(*lists, [0] * 16)
        first = list(answer)
        for one in lists:
            one[0] = 99
        self.assertEqual(first, answer)

    def test_nothing_is_kept(self):
        many = [circuit(*SMALL) + [sixteen(shifts)] for shifts in ([0], [0, 1, 1], [0, 1, 0])]
        many.append(circuit([1], []) + [[0] * 16])
        first = [moved(*args) for args in many]
        self.assertEqual([[1, 0, 1], [2, 0, 0], [], []], [answer[131:134] for answer in first])
        for args in many:
            moved(*args).append(1)
        self.assertEqual(list(reversed(first)), [moved(*args) for args in reversed(many)])

    def test_nothing_is_printed(self):
        out = io.StringIO()
        with contextlib.redirect_stdout(out), contextlib.redirect_stderr(out):
            for shifts in ([0], [1], [0, 1, 1]):
                moved(*circuit(*SMALL), sixteen(shifts))
        self.assertEqual("", out.getvalue())


if __name__ == "__main__":
    unittest.main()
