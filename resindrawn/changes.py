"""The calls that tell the bed something. Each takes the bed and what is told, and answers a list."""

from resindrawn.setting import MOST_WARMTH
from resindrawn.state import NOT_AS_TOLD

MOST_CELLS = 8
MOST_RESISTED = 100
MOST_ROWS = 8
MOST_MINUTES = 100000
MOST_PART = 1000
MOST_THOUSANDTHS = 500


def all_within(numbers, least, most):
    return all([least <= number <= most for number in numbers])


def all_rising(numbers):
    return all([numbers[k] < numbers[k + 1] for k in range(len(numbers) - 1)])


def is_table(warmths, minutes):
    if len(warmths) != len(minutes) or not 1 <= len(warmths) <= MOST_ROWS:
        return False
    if not all_rising(warmths) or not all_within(warmths, 0, MOST_WARMTH):
        return False
    return all_within(minutes, 0, MOST_MINUTES)


def start_bed(bed, told):
    cells = told[0]
    if not 1 <= len(cells) <= MOST_CELLS or not all_within(cells, 1, MOST_RESISTED):
        return [NOT_AS_TOLD]
    bed.renew(cells)
    return [len(cells)]


def change_cell(bed, told):
    cell = told[0]
    resists = told[1]
    if not bed.has_cell(cell) or not 1 <= resists <= MOST_RESISTED:
        return [NOT_AS_TOLD]
    before = bed.cells[cell]
    bed.cells[cell] = resists
    return [before]


def change_inlets(bed, told):
    bits = told[0]
    if not bed.has_cells_of(bits):
        return [NOT_AS_TOLD]
    before = bed.inlet_bits
    bed.inlet_bits = bits
    return [before]


def change_vents(bed, told):
    bits = told[0]
    if not bed.has_cells_of(bits):
        return [NOT_AS_TOLD]
    before = bed.vent_bits
    bed.vent_bits = bits
    return [before]


def change_table(bed, told):
    warmths = told[0]
    minutes = told[1]
    if not is_table(warmths, minutes):
        return [NOT_AS_TOLD]
    bed.warmths = list(warmths)
    bed.minutes = list(minutes)
    return [len(warmths)]


def change_ratio(bed, told):
    parts = told[:2]
    thousandths = told[2]
    if not all_within(parts, 1, MOST_PART) or thousandths > MOST_THOUSANDTHS:
        return [NOT_AS_TOLD]
    bed.resin_part = parts[0]
    bed.hardener_part = parts[1]
    bed.thousandths = thousandths
    return [0]


# by the number of the call
CHANGES = {
    0: start_bed,
    1: change_cell,
    2: change_inlets,
    3: change_vents,
    4: change_table,
    5: change_ratio,
}
