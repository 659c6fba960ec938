"""The calls that ask the bed something. Each takes the bed and what is told, and answers a list."""

from resindrawn.fronts import all_wet_minutes, front_minutes, shut_in_cells, wet_minutes, wetting_inlet
from resindrawn.state import NO_INLET, NOT_AS_TOLD


def ask_time(bed, told):
    inlet = told[0]
    cell = told[1]
    if not bed.has_cell(inlet) or not bed.has_cell(cell):
        return [NOT_AS_TOLD]
    return [front_minutes(bed.cells, inlet, cell)]


def wet_refusals(bed, cell):
    """Why it can't be told how a cell is wetted, the first named first."""
    refusals = []
    if not bed.has_cell(cell):
        refusals.append(NOT_AS_TOLD)
    if bed.inlet_bits == 0:
        refusals.append(NO_INLET)
    return refusals


def ask_wet(bed, told):
    cell = told[0]
    refusals = wet_refusals(bed, cell)
    if refusals:
        return refusals[:1]
    return [wet_minutes(bed.cells, bed.inlet_cells(), cell)]


def ask_whom(bed, told):
    cell = told[0]
    refusals = wet_refusals(bed, cell)
    if refusals:
        return refusals[:1]
    return [wetting_inlet(bed.cells, bed.inlet_cells(), cell)]


def ask_last(bed, told):
    if bed.inlet_bits == 0:
        return [NO_INLET]
    minutes = all_wet_minutes(bed.cells, bed.inlet_cells())
    latest = max(minutes)
    return [latest, minutes.index(latest)]


def ask_air(bed, told):
    places = shut_in_cells(bed.cells, bed.inlet_cells(), bed.vent_cells())
    return [len(places)] + places


# by the number of the call
QUESTIONS = {
    6: ask_time,
    7: ask_wet,
    8: ask_whom,
    9: ask_last,
    10: ask_air,
}
