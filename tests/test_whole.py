"""What the document promises over the whole program: all six calls together."""

import inspect
import unittest

from stepcircuits import circuits
from stepcircuits.circuits import best, fewest, fits, moved, period, run
from tests.helper import (
    CORRELATOR,
    GREATEST_NUMBER,
    CallCase,
    circuit,
    great_circuits,
    no_circuits,
    numbers,
    shifted,
    some_circuits,
    some_words,
)

SIX_LISTS = ["counts", "delays", "kinds", "starts", "ends", "registers"]
ARGUMENTS = {
    "period": SIX_LISTS,
    "fits": ["p"] + SIX_LISTS,
    "best": SIX_LISTS,
    "fewest": ["p"] + SIX_LISTS,
    "moved": SIX_LISTS + ["shifts"],
    "run": ["t"] + SIX_LISTS + ["held", "given"],
}


def six_calls(lists, p, shifts, held, given):
    """Each of the six calls upon the same circuit: what is called, and with what."""
    return [
        (period, lists),
        (fits, [p] + lists),
        (best, lists),
        (fewest, [p] + lists),
        (moved, lists + [shifts]),
        (run, [len(given)] + lists + [held, given]),
    ]


def many_circuits():
    yield circuit(*CORRELATOR, [0, 1, 2, 3, 3, 2, 1, 0])
    yield circuit([0], [])
    for delays, wires in some_circuits(30, 20, 6, 12):
        yield circuit(delays, wires, [part % 4 for part in range(len(delays))])
    for delays, wires in great_circuits(31, 3):
        yield circuit(delays, wires, [0, 1, 2, 3] * 4)


class Together(CallCase):
    def test_names_and_arguments(self):
        for name, wanted in ARGUMENTS.items():
            self.assertEqual(wanted, list(inspect.signature(getattr(circuits, name)).parameters))

    def test_each_answers_as_at_first_and_changes_nothing(self):
        source = numbers(32)
        for lists in many_circuits():
            held = some_words(source, sum(lists[5]))
            calls = six_calls(lists, sum(lists[1]) // 2, [0] * 16, held, some_words(source, 10))
            first = [self.asked(call, args) for call, args in calls]
            # The others, called in between, leave no trace.
            self.assertEqual(list(reversed(first)), [call(*args) for call, args in reversed(calls)])
            self.assertEqual(first, [call(*args) for call, args in calls])

    def test_how_much_is_answered(self):
        source = numbers(33)
        for lists in many_circuits():
            held = some_words(source, sum(lists[5]))
            outward = lists[4].count(0)
            calls = six_calls(lists, GREATEST_NUMBER, [0] * 16, held, [1, 2, 3])
            lengths = [len(call(*args)) for call, args in calls]
            self.assertEqual([1, 17, 17, 17, 179, 1 + 3 * outward], lengths)

    def test_each_refuses_what_is_no_circuit(self):
        for why, lists in no_circuits():
            held = [1] * sum(lists[5])
            for call, args in six_calls(lists, 5, [0] * 16, held, [1, 2]):
                with self.subTest(why=why, call=call):
                    self.assertEqual([-2], self.asked(call, args))


class Moved(unittest.TestCase):
    def test_the_calls_agree(self):
        for lists in many_circuits():
            now = period(*lists)[0]
            least, *shifts = best(*lists)
            self.assertLessEqual(least, now)
            self.assertEqual([1] + shifts, fits(least, *lists))
            for p in (least, now, GREATEST_NUMBER):
                few, *those = fewest(p, *lists)
                answer = moved(*lists, those)
                if answer != [-3]:
                    m = lists[0][1]
                    after = lists[:5] + [answer[131:131 + m]]
                    self.assertEqual(few, sum(after[5]))
                    self.assertLessEqual(period(*after)[0], p)
            if least > 0:
                self.assertEqual([0], fits(least - 1, *lists))
                self.assertEqual([-3], fewest(least - 1, *lists))

    def test_what_it_does_to_the_outside_stays(self):
        # Sums and words xored are 0 of nothing but 0, so that registers of 0 may stand on either side of a part.
        source = numbers(34)
        done = 0
        for delays, wires in some_circuits(35, 60, 7, 14, 8):
            lists = circuit(delays, wires, [next(source) % 2 for _ in delays])
            given = some_words(source, 30)
            wanted = run(30, *lists, [0] * sum(lists[5]), given)
            for shifts in (best(*lists)[1:], fewest(GREATEST_NUMBER, *lists)[1:]):
                answer = moved(*lists, shifts)
                if answer != [-3]:
                    after = answer[131:131 + len(wires)]
                    self.assertEqual([w[2] for w in shifted(wires, shifts)], after)
                    self.assertEqual(wanted, run(30, *lists[:5], after, [0] * sum(after), given))
                    done += any(shifts)
        self.assertGreater(done, 40)


if __name__ == "__main__":
    unittest.main()
