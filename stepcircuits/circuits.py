"""The calls on circuits: each takes plain lists and answers one new list of whole numbers."""

MOST_PARTS = 16
MOST_WIRES = 48
MOST_REGISTERS = 8
MOST_KIND = 3
OUTSIDE = 0
NO_CIRCUIT = -2


def period(counts, delays, kinds, starts, ends, registers):
    """The greatest delay of any way without a register; -2 of what isn't a circuit."""
    if not is_circuit(counts, delays, kinds, starts, ends, registers):
        return [NO_CIRCUIT]
    return [greatest_delay(delays, starts, ends, registers)]


def is_circuit(counts, delays, kinds, starts, ends, registers):
    """Whether what is handed in is a circuit."""
    n = counts[0]
    # Behind a count out of range the lists are empty, so the counts are asked before any list is read.
    if n < 1 or n > MOST_PARTS or counts[1] < 0 or counts[1] > MOST_WIRES:
        return False
    if delays[OUTSIDE] != 0 or max(kinds) > MOST_KIND:
        return False
    # Which parts are joined can be asked only of wires between parts that are there.
    if not wires_are_sound(n, starts, ends, registers):
        return False
    if not all_joined(n, starts, ends):
        return False
    return len(signal_order(n, starts, ends, bare_wires(registers))) == n


def wires_are_sound(n, starts, ends, registers):
    """Whether each wire joins parts that are there, through no more registers than a wire may have."""
    for start, end, many in zip(starts, ends, registers):
        if start >= n or end >= n or many > MOST_REGISTERS:
            return False
    return True


def all_joined(n, starts, ends):
    """Whether by wires one comes from the outside to each part, and from each part to the outside."""
    # Against the wires' direction one finds the parts from which one comes to the outside.
    return len(parts_reached(starts, ends)) == n and len(parts_reached(ends, starts)) == n


def parts_reached(starts, ends):
    """The parts to which one comes from the outside by wires, the outside among them."""
    reached = [OUTSIDE]
    k = 0
    while k < len(reached):
        for start, end in zip(starts, ends):
            if start == reached[k] and end not in reached:
                reached.append(end)
        k += 1
    return reached


def bare_wires(registers):
    """The numbers of the wires without a register."""
    return [e for e in range(len(registers)) if registers[e] == 0]


def signal_order(n, starts, ends, bare):
    """The parts, each behind all those from which a bare wire leads to it.

    Parts on a ring of bare wires, and parts behind such a ring, are not among them.
    """
    awaited = [0] * n
    for e in bare:
        awaited[ends[e]] += 1
    order = [part for part in range(n) if awaited[part] == 0]
    k = 0
    while k < len(order):
        for e in bare:
            if starts[e] == order[k]:
                awaited[ends[e]] -= 1
                if awaited[ends[e]] == 0:
                    order.append(ends[e])
        k += 1
    return order


def greatest_delay(delays, starts, ends, registers):
    """The greatest delay of any way without a register in a circuit."""
    bare = bare_wires(registers)
    # For each part the greatest delay of the ways that end there: there may be far too many ways to walk each.
    slowest = list(delays)
    for part in signal_order(len(delays), starts, ends, bare):
        for e in bare:
            if starts[e] == part:
                slowest[ends[e]] = max(slowest[ends[e]], slowest[part] + delays[ends[e]])
    return max(slowest)
