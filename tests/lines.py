"""Writes calls as the interface asks for them, and parts the answers call by call."""

from resindrawn.bed import answers

MOST = 4294967295


def start(cells):
    return [0, len(cells)] + list(cells)


def cell(j, r):
    return [1, j, r]


def inlets(s):
    return [2, s]


def vents(s):
    return [3, s]


def table(warmths, minutes):
    return [4, len(warmths)] + list(warmths) + [len(minutes)] + list(minutes)


def ratio(p, q, near):
    return [5, p, q, near]


def time(a, j):
    return [6, a, j]


def wet(j):
    return [7, j]


def whom(j):
    return [8, j]


def last():
    return [9]


def air():
    return [10]


def sets(t):
    return [11, t]


def in_time(t):
    return [12, t]


def good(t):
    return [13, t]


def warmest():
    return [14]


def fewest(t):
    return [15, t]


def soonest(k):
    return [16, k]


def mixed(x, y):
    return [17, x, y]


def hard(x):
    return [18, x]


def front(n):
    return [19, n]


def state():
    return [20]


def line_of(calls):
    line = []
    for call in calls:
        line.extend(call)
    return line


def parted(given):
    """The answers of one list, a list for each call."""
    parts = []
    at = 0
    while at < len(given):
        end = at + 1 + given[at]
        if given[at] < 1 or end > len(given):
            raise AssertionError(f"answers can't be parted at {at}: {given}")
        parts.append(given[at + 1:end])
        at = end
    return parts


def ask(*calls):
    """What each of these calls answers on one new object."""
    parts = parted(answers(line_of(calls)))
    if len(parts) != len(calls):
        raise AssertionError(f"{len(calls)} calls, {len(parts)} answers")
    return parts


def ask_behind(before, calls):
    """What calls answer behind others, without what those others answer."""
    return ask(*before, *calls)[len(before):]


def ask_many_behind(before, calls):
    """The same for more calls than one list may hold; they must not change anything for one another."""
    room = 200 - len(before)
    asked = []
    for at in range(0, len(calls), room):
        asked += ask_behind(before, calls[at:at + room])
    return asked


def probes(how_many):
    """Calls that show all that is told of a bed with so many cells, and what follows from it."""
    row = range(how_many)
    calls = [state()] + [time(a, j) for a in row for j in row]
    calls += [wet(j) for j in row] + [whom(j) for j in row] + [last(), air()]
    return calls + [sets(t) for t in range(0, 101, 5)] + [warmest(), fewest(15), hard(200)]


def inlets_of(bits):
    return [j for j in range(8) if bits & (1 << j)]


def numbers_from(seed):
    """Whole numbers below 2^31 that look mixed and are the same each time."""
    number = seed
    while True:
        number = (number * 1103515245 + 12345) % 2147483648
        yield number >> 8


def mixed_rows(seed, how_many_rows):
    """Rows of 1 to 8 cells, small and great ones, the same each time."""
    numbers = numbers_from(seed)
    rows = []
    for k in range(how_many_rows):
        most = (2, 9, 100)[k % 3]
        rows.append([1 + next(numbers) % most for cell_number in range(1 + k % 8)])
    return rows
