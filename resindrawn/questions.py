"""The calls that ask the bed something. Each takes the bed and what is told, and answers a list."""

from resindrawn.fronts import (
    all_wet_minutes,
    front_minutes,
    front_times,
    last_wet_minutes,
    shut_in_cells,
    wet_cells,
    wet_minutes,
    wetting_inlet,
)
from resindrawn.mixing import greatest_hardener, is_mixed_rightly, least_hardener
from resindrawn.setting import good_inlet_sets, good_warmths, is_good, is_in_time, is_told, setting_minutes
from resindrawn.state import NO_INLET, NONE_DOES, NOT_AS_TOLD

MOST_MIXED = 10000
MOST_RESIN = 200


def ask_time(bed, told):
    inlet = told[0]
    cell = told[1]
    if not bed.has_cell(inlet) or not bed.has_cell(cell):
        return [NOT_AS_TOLD]
    return [front_minutes(bed.cells, inlet, cell)]


def wet_refusals(bed, cell):
    """Why it can't be told how a cell is wetted, the first named first."""
    refusals = []
    if not bed.has_cell(cell):
        refusals.append(NOT_AS_TOLD)
    if bed.inlet_bits == 0:
        refusals.append(NO_INLET)
    return refusals


def ask_wet(bed, told):
    cell = told[0]
    refusals = wet_refusals(bed, cell)
    if refusals:
        return refusals[:1]
    return [wet_minutes(front_times(bed.cells), bed.inlet_cells(), cell)]


def ask_whom(bed, told):
    cell = told[0]
    refusals = wet_refusals(bed, cell)
    if refusals:
        return refusals[:1]
    return [wetting_inlet(front_times(bed.cells), bed.inlet_cells(), cell)]


def ask_last(bed, told):
    if bed.inlet_bits == 0:
        return [NO_INLET]
    minutes = all_wet_minutes(front_times(bed.cells), bed.inlet_cells())
    latest = max(minutes)
    return [latest, minutes.index(latest)]


def ask_air(bed, told):
    places = shut_in_cells(front_times(bed.cells), bed.inlet_cells(), bed.vent_cells())
    return [len(places)] + places


def ask_sets(bed, told):
    warmth = told[0]
    if not is_told(bed, warmth):
        return [NONE_DOES]
    return [setting_minutes(bed, warmth)]


def ask_in_time(bed, told):
    return [1 if is_in_time(bed, front_times(bed.cells), bed.inlet_cells(), told[0]) else 0]


def ask_good(bed, told):
    return [1 if is_good(bed, front_times(bed.cells), bed.inlet_cells(), told[0]) else 0]


def ask_warmest(bed, told):
    warmths = good_warmths(bed, front_times(bed.cells), bed.inlet_cells())
    if not warmths:
        return [NONE_DOES]
    return [max(warmths)]


def ask_fewest(bed, told):
    sets = good_inlet_sets(bed, front_times(bed.cells), told[0])
    if not sets:
        return [NONE_DOES]
    # min keeps the first of like ones: as sets rise, that's the least
    fewest = min(sets, key=bed.how_many_of)
    return [bed.how_many_of(fewest), fewest]


def ask_soonest(bed, told):
    how_many = told[0]
    if not 1 <= how_many <= len(bed.cells):
        return [NOT_AS_TOLD]
    times = front_times(bed.cells)
    sets = [bits for bits in bed.inlet_sets() if bed.how_many_of(bits) == how_many]
    minutes = [last_wet_minutes(times, bed.cells_of(bits)) for bits in sets]
    soonest = min(minutes)
    return [soonest, sets[minutes.index(soonest)]]


def ask_mixed(bed, told):
    resin = told[0]
    hardener = told[1]
    if resin > MOST_MIXED or hardener > MOST_MIXED:
        return [NOT_AS_TOLD]
    return [1 if is_mixed_rightly(bed, resin, hardener) else 0]


def ask_hard(bed, told):
    resin = told[0]
    if not 1 <= resin <= MOST_RESIN:
        return [NOT_AS_TOLD]
    least = least_hardener(bed, resin)
    greatest = greatest_hardener(bed, resin)
    if least > greatest:
        return [NONE_DOES]
    return [least, greatest]


def ask_front(bed, told):
    cells = wet_cells(front_times(bed.cells), bed.inlet_cells(), told[0])
    return [len(cells)] + cells


def ask_state(bed, told):
    rows = len(bed.warmths)
    ratio = [bed.resin_part, bed.hardener_part, bed.thousandths]
    return [len(bed.cells), bed.inlet_bits, bed.vent_bits, rows] + ratio


# by the number of the call
QUESTIONS = {
    6: ask_time,
    7: ask_wet,
    8: ask_whom,
    9: ask_last,
    10: ask_air,
    11: ask_sets,
    12: ask_in_time,
    13: ask_good,
    14: ask_warmest,
    15: ask_fewest,
    16: ask_soonest,
    17: ask_mixed,
    18: ask_hard,
    19: ask_front,
    20: ask_state,
}
