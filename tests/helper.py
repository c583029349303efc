"""What the tests have in common: making circuits, lists that can't be changed, and circuits told plainly."""

LEAST_NUMBER = -2147483648
GREATEST_NUMBER = 2147483647


class Untouched(list):
    """A list that fails at once where somebody would change it, if only for a while."""

    def refuse(self, *args, **kwargs):
        raise AssertionError("what is handed in was changed")

    __setitem__ = __delitem__ = __iadd__ = __imul__ = refuse
    append = extend = insert = pop = remove = clear = sort = reverse = refuse


def circuit(delays, wires, kinds=None):
    """The six lists of a circuit; a wire is (from, to, registers)."""
    return [
        [len(delays), len(wires)],
        list(delays),
        [0] * len(delays) if kinds is None else list(kinds),
        [wire[0] for wire in wires],
        [wire[1] for wire in wires],
        [wire[2] for wire in wires],
    ]


def untouched(lists):
    return [Untouched(one) for one in lists]


def ring(n, many=1):
    """Wires from each part to the next and from the last to the outside; the last alone has registers."""
    return [(part, part + 1, 0) for part in range(n - 1)] + [(n - 1, 0, many)]


def numbers(seed):
    """Whole numbers below 2^16, the same ones on every Python."""
    state = seed
    while True:
        state = (state * 6364136223846793005 + 1442695040888963407) % 2**64
        yield state >> 48


def leads(n, wires):
    """leads[u][v]: whether a row of one or more of the wires leads from u to v."""
    table = [[any(w[0] == u and w[1] == v for w in wires) for v in range(n)] for u in range(n)]
    for k in range(n):
        for u in range(n):
            for v in range(n):
                table[u][v] = table[u][v] or (table[u][k] and table[k][v])
    return table


def told_circuit(delays, wires, kinds):
    """Whether this is a circuit, word by word as the document tells it."""
    n = len(delays)
    if not 1 <= n <= 16 or not 0 <= len(wires) <= 48 or delays[0] != 0:
        return False
    if any(not 0 <= kind <= 3 for kind in kinds):
        return False
    if any(w[0] >= n or w[1] >= n or not 0 <= w[2] <= 8 for w in wires):
        return False
    by_wires = leads(n, wires)
    if any(not (by_wires[part][0] and by_wires[0][part]) for part in range(1, n)):
        return False
    without = leads(n, [w for w in wires if w[2] == 0])
    return not any(without[part][part] for part in range(n))


def ways_from(part, wires):
    """All ways without a register that begin at this part, each as the row of its parts."""
    yield [part]
    for start, end, many in wires:
        if start == part and many == 0:
            for rest in ways_from(end, wires):
                yield [part] + rest


def told_period(delays, wires):
    """The period of a circuit by walking every way."""
    return max(
        sum(delays[part] for part in way)
        for begin in range(len(delays))
        for way in ways_from(begin, wires)
    )
