"""What the tests have in common: making circuits, asking the calls, and circuits told plainly."""

import copy
import functools
import math
import operator
import sys
import unittest

LEAST_NUMBER = -2147483648
GREATEST_NUMBER = 2147483647
GREATEST_WORD = 4294967295


class Untouched(list):
    """A list that fails at once where somebody would change it, if only for a while."""

    def refuse(self, *args, **kwargs):
        raise AssertionError("what is handed in was changed")

    __setitem__ = __delitem__ = __iadd__ = __imul__ = refuse
    append = extend = insert = pop = remove = clear = sort = reverse = refuse


class CallCase(unittest.TestCase):
    def asked(self, call, args):
        """The call's answer: plain numbers, the same at a second call, and nothing that was handed in has changed."""
        before = copy.deepcopy(args)
        answer = call(*untouched(args))
        self.assertIs(list, type(answer))
        self.assertEqual([int] * len(answer), [type(one) for one in answer])
        first = list(answer)
        answer.append(7)
        self.assertEqual(first, call(*args))
        self.assertEqual(before, args)
        return first

    def refused(self, call, ahead=(), behind=()):
        """The call answers -2 alone of each kind of what isn't a circuit."""
        for why, lists in no_circuits():
            with self.subTest(why=why, ahead=ahead):
                self.assertEqual([-2], self.asked(call, [*ahead, *lists, *behind]))


def circuit(delays, wires, kinds=None):
    """The six lists of a circuit; a wire is (from, to, registers)."""
    return [
        [len(delays), len(wires)],
        list(delays),
        [0] * len(delays) if kinds is None else list(kinds),
        [wire[0] for wire in wires],
        [wire[1] for wire in wires],
        [wire[2] for wire in wires],
    ]


# Leiserson's and Saxe's own circuit, four comparers and three adders: its period of 24 can be made 13.
CORRELATOR = (
    [0, 3, 3, 3, 3, 7, 7, 7],
    [
        (0, 1, 1), (1, 2, 1), (2, 3, 1), (3, 4, 1), (4, 5, 0), (5, 6, 0), (6, 7, 0), (7, 0, 0),
        (1, 7, 0), (2, 6, 0), (3, 5, 0),
    ],
)


def untouched(args):
    return [Untouched(one) if isinstance(one, list) else one for one in args]


def within_steps(most, call, *args):
    """The call's answer, if the package comes to it in so many steps."""
    steps = 0

    def trace(frame, event, arg):
        nonlocal steps
        steps += 1
        if steps > most:
            raise AssertionError("too many steps")
        return trace

    before = sys.gettrace()
    sys.settrace(trace)
    try:
        return call(*args)
    finally:
        sys.settrace(before)


def ring(n, many=1):
    """Wires from each part to the next and from the last to the outside; the last alone has registers."""
    return [(part, part + 1, 0) for part in range(n - 1)] + [(n - 1, 0, many)]


def numbers(seed):
    """Whole numbers below 2^16, the same ones on every Python."""
    state = seed
    while True:
        state = (state * 6364136223846793005 + 1442695040888963407) % 2**64
        yield state >> 48


def some_words(source, many):
    """So many words, both ends often among them."""
    return [(0, GREATEST_WORD, next(source), next(source) * 65536 + 1)[next(source) % 4] for _ in range(many)]


def leads(n, wires):
    """leads[u][v]: whether a row of one or more of the wires leads from u to v."""
    table = [[any(w[0] == u and w[1] == v for w in wires) for v in range(n)] for u in range(n)]
    for k in range(n):
        for u in range(n):
            for v in range(n):
                table[u][v] = table[u][v] or (table[u][k] and table[k][v])
    return table


def told_circuit(delays, wires, kinds):
    """Whether this is a circuit, word by word as the document tells it."""
    n = len(delays)
    if not 1 <= n <= 16 or not 0 <= len(wires) <= 48 or delays[0] != 0:
        return False
    if any(not 0 <= kind <= 3 for kind in kinds):
        return False
    if any(w[0] >= n or w[1] >= n or not 0 <= w[2] <= 8 for w in wires):
        return False
    by_wires = leads(n, wires)
    if any(not (by_wires[part][0] and by_wires[0][part]) for part in range(1, n)):
        return False
    without = leads(n, [w for w in wires if w[2] == 0])
    return not any(without[part][part] for part in range(n))


def ways_from(part, wires):
    """All ways without a register that begin at this part, each as the row of its parts."""
    yield [part]
    for start, end, many in wires:
        if start == part and many == 0:
            for rest in ways_from(end, wires):
                yield [part] + rest


def told_period(delays, wires):
    """The period of a circuit by walking every way."""
    return max(
        sum(delays[part] for part in way)
        for begin in range(len(delays))
        for way in ways_from(begin, wires)
    )


def no_circuits():
    """What isn't a circuit, each kind of it: why, and the six lists."""
    for n in (0, 17, -1, LEAST_NUMBER, GREATEST_NUMBER):
        yield "parts", [[n, 0], [], [], [], [], []]
        yield "parts", [[n, 1], [], [], [0], [0], [1]]
        yield "parts and wires", [[n, 49], [], [], [], [], []]
    for m in (49, -1, LEAST_NUMBER, GREATEST_NUMBER):
        yield "wires", [[1, m], [0], [0], [], [], []]
        yield "wires", [[16, m], [0] * 16, [0] * 16, [], [], []]
    good = [(0, 1, 1), (1, 2, 0), (2, 0, 1)]
    yield "the outside's delay", circuit([1, 3, 5], good)
    yield "the outside's delay", circuit([65535], [])
    for kinds in ([4, 0, 0], [0, 0, 4], [0, 255, 0]):
        yield "kind", circuit([0, 3, 5], good, kinds)
    for other in (3, 16, 255):
        yield "from no part", circuit([0, 3, 5], good + [(other, 1, 1)])
        yield "to no part", circuit([0, 3, 5], good + [(1, other, 1)])
    for many in (9, 255):
        yield "registers", circuit([0, 3, 5], good + [(0, 1, many)])
        yield "registers", circuit([0], [(0, 0, many)])
    yield "not to the outside", circuit([0, 3, 5], [(0, 1, 1), (1, 0, 1), (1, 2, 1)])
    yield "not to the outside", circuit([0, 3], [(0, 1, 1), (1, 1, 1)])
    yield "not from the outside", circuit([0, 3, 5], [(0, 1, 1), (1, 0, 1), (2, 1, 1)])
    yield "not from the outside", circuit([0, 3], [(1, 0, 1), (1, 1, 1)])
    yield "alone", circuit([0, 0], [])
    yield "ring", circuit([0], [(0, 0, 0)])
    yield "ring", circuit([0, 3], [(0, 1, 0), (1, 0, 0)])
    yield "ring", circuit([0, 3, 5], good + [(2, 1, 0)])
    yield "ring", circuit([0, 3, 5], good + [(2, 2, 0)])
    yield "ring", circuit([0] * 16, ring(16, 0) * 3)


def some_circuits(seed, many, most_parts, most_registers, spare_wires=4, slowest=9):
    """So many circuits as (delays, wires), the same at every call, with few registers in all."""
    source = numbers(seed)
    while many > 0:
        n = 1 + next(source) % most_parts
        delays = [0] + [next(source) % (slowest + 1) for _ in range(n - 1)]
        wires = [(part, (part + 1) % n, next(source) % 3) for part in range(n)]
        for _ in range(next(source) % (spare_wires + 1)):
            place = next(source) % (len(wires) + 1)
            wires.insert(place, (next(source) % n, next(source) % n, next(source) % 3))
        if sum(w[2] for w in wires) <= most_registers and told_circuit(delays, wires, [0] * n):
            many -= 1
            yield delays, wires


def great_circuits(seed, many):
    """So many circuits of sixteen parts and forty-eight wires as (delays, wires), the same at every call."""
    source = numbers(seed)
    while many > 0:
        delays = [0] + [next(source) for _ in range(15)]
        most = (2, 4, 9)[many % 3]
        wires = [(part, (part + 1) % 16, next(source) % most) for part in range(16)]
        while len(wires) < 48:
            wires.append((next(source) % 16, next(source) % 16, next(source) % most))
        # A wire back has a register, so that no ring is without one.
        wires = [(u, v, w if u < v else max(w, 1)) for u, v, w in wires]
        turn = next(source) % 15
        order = [0] + [1 + (part * 7 + turn) % 15 for part in range(15)]
        many -= 1
        yield [delays[order.index(part)] for part in range(16)], [(order[u], order[v], w) for u, v, w in wires]


def shifted(wires, shifts):
    """The wires with the registers that they have by these shifts."""
    return [(u, v, many + shifts[v] - shifts[u]) for u, v, many in wires]


def fitting(n, wires):
    """All shifts that fit, by trying: none is above all registers together, or as far below 0."""
    most = sum(w[2] for w in wires)
    rows = [(0,)]
    for part in range(1, n):
        inner = [w for w in wires if max(w[0], w[1]) == part]
        longer = [row + (shift,) for row in rows for shift in range(-most, most + 1)]
        rows = [row for row in longer if all(w[2] >= 0 for w in shifted(inner, row))]
    return rows


def told_choices(delays, wires):
    """All shifts that fit: (shifts, the period by them, how many registers by them)."""
    choices = []
    for shifts in fitting(len(delays), wires):
        after = shifted(wires, shifts)
        choices.append((shifts, told_period(delays, after), sum(w[2] for w in after)))
    return choices


def told_greatest(rows):
    """That one of the rows which is for each part as great as any, filled up to sixteen."""
    greatest = tuple(max(column) for column in zip(*rows))
    if greatest not in rows:
        raise AssertionError("none is greatest for each part")
    return list(greatest) + [0] * (16 - len(greatest))


def told_fits(p, choices):
    rows = [shifts for shifts, slowest, _ in choices if slowest <= p]
    return [1] + told_greatest(rows) if rows else [0]


def told_best(choices):
    p = min(slowest for _, slowest, _ in choices)
    return [p] + told_fits(p, choices)[1:]


def told_fewest(p, choices):
    rows = [(many, shifts) for shifts, slowest, many in choices if slowest <= p]
    if not rows:
        return [-3]
    least = min(many for many, _ in rows)
    return [least] + told_greatest([shifts for many, shifts in rows if many == least])


def worth_asking(delays, choices):
    """Numbers p: each period that there is by some shifts, those beside it, and the ends."""
    found = {slowest for _, slowest, _ in choices} | set(delays)
    near = {p + step for p in found for step in (-1, 0, 1)}
    return sorted({p for p in near if p >= 0} | {0, sum(delays), GREATEST_NUMBER})


def slowest_from(delays, wires):
    """For each part the greatest delay of any way without a register that begins there."""
    known = {}

    def slowest(part):
        if part not in known:
            known[part] = delays[part] + max([0] + [slowest(w[1]) for w in wires if w[0] == part and w[2] == 0])
        return known[part]

    return [slowest(part) for part in range(len(delays))]


def lowered_shifts(p, delays, wires):
    """What fits answers, told otherwise: from far above, shifts are lowered only where they have to be."""
    shifts = [0] + [sum(w[2] for w in wires)] * (len(delays) - 1)
    while shifts[0] == 0:
        before = list(shifts)
        for u, v, many in wires:
            shifts[u] = min(shifts[u], shifts[v] + many)
        if shifts != before:
            continue
        slow = slowest_from(delays, shifted(wires, shifts))
        shifts = [shift - (delay > p) for shift, delay in zip(shifts, slow)]
        if shifts == before:
            return [1] + shifts + [0] * (16 - len(shifts))
    return [0]


def told_given(kind, brought):
    """What a part of this kind gives if its wires bring these words."""
    whole = {
        0: sum(brought),
        1: functools.reduce(operator.xor, brought, 0),
        2: math.prod(brought),
        3: sum(brought) * 2654435761 + 1,
    }
    return whole[kind] % 2**32


def told_run(given, wires, held, kinds):
    """The words that run answers, told otherwise: nothing goes on, but it's asked how long ago a word was given."""
    rows = []
    for _, _, many in wires:
        used = sum(len(row) for row in rows)
        rows.append(held[used:used + many])
    known = {}

    def brought(part, tick):
        return [
            gives(start, tick - many) if tick >= many else row[many - 1 - tick]
            for (start, end, many), row in zip(wires, rows)
            if end == part
        ]

    def gives(part, tick):
        if (part, tick) not in known:
            known[part, tick] = told_given(kinds[part], brought(part, tick)) if part > 0 else given[tick]
        return known[part, tick]

    answered = []
    for tick in range(len(given)):
        for part in range(len(kinds)):
            gives(part, tick)
        answered += brought(0, tick)
    return answered
