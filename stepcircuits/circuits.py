"""The calls on circuits: each takes plain lists and answers one new list of whole numbers."""

MOST_PARTS = 16
MOST_WIRES = 48
MOST_REGISTERS = 8
MOST_KIND = 3
MOST_TICKS = 256
XORED = 1
PRODUCT = 2
MIXED = 3
MIXING_FACTOR = 2654435761
# 2 to the 32nd: what is given counts modulo this.
WORDS = 4294967296
OUTSIDE = 0
NO_CIRCUIT = -2
NO_SHIFTS = -3
# More than all delays of a circuit together, so that a way with fewer registers always costs less.
REGISTER_COST = 1048576
# More than any way from a part to a part that meets none twice can cost.
NO_WAY = 1099511627776


def period(counts, delays, kinds, starts, ends, registers):
    """The greatest delay of any way without a register; -2 of what isn't a circuit."""
    if not is_circuit(counts, delays, kinds, starts, ends, registers):
        return [NO_CIRCUIT]
    return [greatest_delay(delays, starts, ends, registers)]


def fits(p, counts, delays, kinds, starts, ends, registers):
    """1 and the greatest shifts that fit, by which the period is p at most; 0 if there are none; or -2."""
    if p < 0 or not is_circuit(counts, delays, kinds, starts, ends, registers):
        return [NO_CIRCUIT]
    limits = shift_limits(p, delays, way_costs(delays, starts, ends, registers))
    if not can_be_kept(limits):
        return [0]
    return [1] + greatest_shifts(limits)


def best(counts, delays, kinds, starts, ends, registers):
    """The least p for which there are shifts as fits answers, and these; or -2."""
    if not is_circuit(counts, delays, kinds, starts, ends, registers):
        return [NO_CIRCUIT]
    costs = way_costs(delays, starts, ends, registers)
    p = least_period(delays, costs)
    return [p] + greatest_shifts(shift_limits(p, delays, costs))


def fewest(p, counts, delays, kinds, starts, ends, registers):
    """How few registers there can be by shifts as fits looks for, and the greatest of these shifts; or -2, -3."""
    if p < 0 or not is_circuit(counts, delays, kinds, starts, ends, registers):
        return [NO_CIRCUIT]
    limits = shift_limits(p, delays, way_costs(delays, starts, ends, registers))
    if not can_be_kept(limits):
        return [NO_SHIFTS]
    # By duality the shifts with the fewest registers are those that use up every limit that bears a load.
    shifts = greatest_shifts(least_sums(tightened(limits, least_load(limits, starts, ends))))
    return [sum(shifted(starts, ends, registers, shifts))] + shifts


def moved(counts, delays, kinds, starts, ends, registers, shifts):
    """0 and the 178 numbers of the circuit with its wires' registers by these shifts; or -2, -3."""
    if not is_circuit(counts, delays, kinds, starts, ends, registers):
        return [NO_CIRCUIT]
    after = shifted(starts, ends, registers, shifts)
    if shifts[OUTSIDE] != 0 or not all_in_range(after):
        return [NO_SHIFTS]
    parts = filled(delays, MOST_PARTS) + filled(kinds, MOST_PARTS)
    wires = filled(starts, MOST_WIRES) + filled(ends, MOST_WIRES) + filled(after, MOST_WIRES)
    return [0] + counts + parts + wires


def run(t, counts, delays, kinds, starts, ends, registers, held, given):
    """How many words the wires that lead outside bring in t ticks, and these, tick by tick; or -2."""
    if t < 0 or t > MOST_TICKS or not is_circuit(counts, delays, kinds, starts, ends, registers):
        return [NO_CIRCUIT]
    order = signal_order(counts[0], starts, ends, bare_wires(registers))
    leading = wires_to_each(counts[0], ends)
    rows = register_rows(registers, held)
    words = []
    for tick in range(t):
        gave = given_by_parts(given[tick], order, kinds, starts, leading, rows)
        words.extend(brought(leading[OUTSIDE], starts, rows, gave))
        rows = gone_on(starts, rows, gave)
    return [len(words)] + words


def is_circuit(counts, delays, kinds, starts, ends, registers):
    """Whether what is handed in is a circuit."""
    n = counts[0]
    # Behind a count out of range the lists are empty, so the counts are asked before any list is read.
    if n < 1 or n > MOST_PARTS or counts[1] < 0 or counts[1] > MOST_WIRES:
        return False
    if delays[OUTSIDE] != 0 or max(kinds) > MOST_KIND:
        return False
    # Which parts are joined can be asked only of wires between parts that are there.
    if not wires_are_sound(n, starts, ends, registers):
        return False
    if not all_joined(n, starts, ends):
        return False
    return len(signal_order(n, starts, ends, bare_wires(registers))) == n


def wires_are_sound(n, starts, ends, registers):
    """Whether each wire joins parts that are there, through no more registers than a wire may have."""
    for start, end, many in zip(starts, ends, registers):
        if start >= n or end >= n or many > MOST_REGISTERS:
            return False
    return True


def all_joined(n, starts, ends):
    """Whether by wires one comes from the outside to each part, and from each part to the outside."""
    # Against the wires' direction one finds the parts from which one comes to the outside.
    return len(parts_reached(starts, ends)) == n and len(parts_reached(ends, starts)) == n


def parts_reached(starts, ends):
    """The parts to which one comes from the outside by wires, the outside among them."""
    reached = [OUTSIDE]
    k = 0
    while k < len(reached):
        for start, end in zip(starts, ends):
            if start == reached[k] and end not in reached:
                reached.append(end)
        k += 1
    return reached


def bare_wires(registers):
    """The numbers of the wires without a register."""
    return [e for e in range(len(registers)) if registers[e] == 0]


def signal_order(n, starts, ends, bare):
    """The parts, each behind all those from which a bare wire leads to it.

    Parts on a ring of bare wires, and parts behind such a ring, are not among them.
    """
    awaited = [0] * n
    for e in bare:
        awaited[ends[e]] += 1
    order = [part for part in range(n) if awaited[part] == 0]
    k = 0
    while k < len(order):
        for e in bare:
            if starts[e] == order[k]:
                awaited[ends[e]] -= 1
                if awaited[ends[e]] == 0:
                    order.append(ends[e])
        k += 1
    return order


def greatest_delay(delays, starts, ends, registers):
    """The greatest delay of any way without a register in a circuit."""
    bare = bare_wires(registers)
    # For each part the greatest delay of the ways that end there: there may be far too many ways to walk each.
    slowest = list(delays)
    for part in signal_order(len(delays), starts, ends, bare):
        for e in bare:
            if starts[e] == part:
                slowest[ends[e]] = max(slowest[ends[e]], slowest[part] + delays[ends[e]])
    return max(slowest)


def way_costs(delays, starts, ends, registers):
    """costs[u][v]: what the slowest of the ways from u to v with the fewest registers costs.

    That is REGISTER_COST for each register, less the delays of all its parts but the last.
    """
    n = len(delays)
    costs = [[NO_WAY] * n for part in range(n)]
    for part in range(n):
        costs[part][part] = 0
    for start, end, many in zip(starts, ends, registers):
        costs[start][end] = min(costs[start][end], many * REGISTER_COST - delays[start])
    # No ring costs less than 0, since each has a register.
    return least_sums(costs)


def least_sums(table):
    """For each two parts the least sum of the table's numbers over the steps of any row from the one to the other.

    If a row back to its beginning has a sum below 0, there is no least; then a number from a part to itself is below 0.
    """
    n = len(table)
    least = [list(row) for row in table]
    for middle in range(n):
        for start in range(n):
            for end in range(n):
                through = least[start][middle] + least[middle][end]
                if through < least[start][end]:
                    least[start][end] = through
    return least


def shift_limits(p, delays, costs):
    """limits[u][v]: by how much u's shift may be above v's at most, that shifts fit and the period is p at most."""
    limits = []
    for row in costs:
        limits.append([way_limit(p, cost, last) for cost, last in zip(row, delays)])
    return least_sums(limits)


def way_limit(p, cost, last):
    """How many registers may be taken from a way of this cost, the last of whose parts has this delay."""
    many = -(-cost // REGISTER_COST)
    # Too slow a way has to keep a register; one with more than the fewest registers always keeps some.
    if way_delay(cost, last) > p:
        return many - 1
    return many


def way_delay(cost, last):
    """The delay of a way of this cost, the last of whose parts has this delay."""
    return -cost % REGISTER_COST + last


def can_be_kept(limits):
    """Whether there are shifts that keep to the limits."""
    return min([limits[part][part] for part in range(len(limits))]) >= 0


def greatest_shifts(limits):
    """Sixteen shifts, for each part as great as the limits let it be above the outside's 0."""
    return filled([row[OUTSIDE] for row in limits], MOST_PARTS)


def filled(values, many):
    """The values, and behind them 0 up to so many."""
    return values + [0] * (many - len(values))


def least_period(delays, costs):
    """The least p for which there are shifts that fit, by which the period is p at most."""
    periods = possible_periods(delays, costs)
    # The greatest of them is always enough, since all shifts may stay 0 then.
    low = 0
    high = len(periods) - 1
    while low < high:
        middle = (low + high) // 2
        if can_be_kept(shift_limits(periods[middle], delays, costs)):
            high = middle
        else:
            low = middle + 1
    return periods[low]


def possible_periods(delays, costs):
    """The delays of the ways with the fewest registers, in order: by whatever shifts, the period is one of these."""
    periods = []
    for row in costs:
        periods.extend([way_delay(cost, last) for cost, last in zip(row, delays)])
    return sorted(set(periods))


def shifted(starts, ends, registers, shifts):
    """How many registers each wire has by these shifts."""
    return [many + shifts[end] - shifts[start] for start, end, many in zip(starts, ends, registers)]


def least_load(limits, starts, ends):
    """load[u][v]: how much of the cheapest flow goes over the limit of u's shift above v's.

    From each part the flow brings as much as it has more wires out than in. Each limit costs as much as it is; what the
    flow costs in all is by how many registers the wires together can have fewer.
    """
    n = len(limits)
    load = [[0] * n for part in range(n)]
    left = wires_out_above_in(n, starts, ends)
    while max(left) > 0:
        start = left.index(max(left))
        end = left.index(min(left))
        push(load, cheapest_row(tightened(limits, load), start, end))
        left[start] -= 1
        left[end] += 1
    return load


def wires_out_above_in(n, starts, ends):
    """For each part how many wires more lead from it than to it."""
    return [starts.count(part) - ends.count(part) for part in range(n)]


def tightened(limits, load):
    """The limits, and with each that bears a load its contrary: who keeps to both differs by just as much.

    It is also what a further one costs that is put upon the load, since load can be taken back, and its cost with it.
    """
    table = [list(row) for row in limits]
    for start in range(len(load)):
        for end in range(len(load)):
            if load[start][end] > 0:
                table[end][start] = -limits[start][end]
    return table


def cheapest_row(costs, start, end):
    """The parts of a row of steps from start to end that costs least."""
    n = len(costs)
    least = list(costs[start])
    before = [start] * n
    for turn in range(n):
        for part in range(n):
            for other in range(n):
                if least[part] + costs[part][other] < least[other]:
                    least[other] = least[part] + costs[part][other]
                    before[other] = part
    row = [end]
    while row[0] != start:
        row.insert(0, before[row[0]])
    return row


def push(load, row):
    """Puts one more upon the load at each step of the row, or takes one back where there is load against it."""
    for start, end in zip(row, row[1:]):
        if load[end][start] > 0:
            load[end][start] -= 1
        else:
            load[start][end] += 1


def all_in_range(registers):
    """Whether each wire has as many registers as a wire may have."""
    for many in registers:
        if many < 0 or many > MOST_REGISTERS:
            return False
    return True


def wires_to_each(n, ends):
    """For each part the numbers of the wires that lead to it."""
    leading = [[] for part in range(n)]
    for e, end in enumerate(ends):
        leading[end].append(e)
    return leading


def register_rows(registers, held):
    """For each wire what its registers hold, the first register's first."""
    rows = []
    at = 0
    for many in registers:
        rows.append(held[at:at + many])
        at += many
    return rows


def given_by_parts(word, order, kinds, starts, leading, rows):
    """What each part gives at a tick at which the outside gives this word."""
    gave = [word] * len(kinds)
    for part in order:
        if part != OUTSIDE:
            gave[part] = made(kinds[part], brought(leading[part], starts, rows, gave))
    return gave


def brought(wires, starts, rows, gave):
    """What these wires bring, if the parts from which those without a register lead give so."""
    return [rows[e][-1] if len(rows[e]) > 0 else gave[starts[e]] for e in wires]


def made(kind, words):
    """What a part of this kind gives if its wires bring these words."""
    if kind == XORED:
        return xored(words)
    if kind == PRODUCT:
        return product(words)
    if kind == MIXED:
        return (sum(words) * MIXING_FACTOR + 1) % WORDS
    return sum(words) % WORDS


def xored(words):
    """All words xored, 0 of none."""
    together = 0
    for word in words:
        together = together ^ word
    return together


def product(words):
    """The words' product, 1 of none."""
    together = 1
    for word in words:
        together = together * word % WORDS
    return together


def gone_on(starts, rows, gave):
    """What the registers hold behind a tick: all goes on by one, and the first takes what its wire's part gave."""
    return [([gave[start]] + row)[:len(row)] for start, row in zip(starts, rows)]
