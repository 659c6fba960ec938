"""The calls that ask the bed something. Each takes the bed and what is told, and answers a list."""

from resindrawn.fronts import all_wet_minutes, front_minutes, shut_in_cells, wet_minutes, wetting_inlet
from resindrawn.state import NO_INLET, NOT_AS_TOLD


def ask_time(bed, told):
    inlet = told[0]
    cell = told[1]
    if not bed.has_cell(inlet) or not bed.has_cell(cell):
        return [NOT_AS_TOLD]
    return [front_minutes(bed.cells, inlet, cell)]


def ask_wet(bed, told):
    cell = told[0]
    inlets = bed.inlet_cells()
    if not bed.has_cell(cell):
        return [NOT_AS_TOLD]
    if not inlets:
        return [NO_INLET]
    return [wet_minutes(bed.cells, inlets, cell)]


def ask_whom(bed, told):
    cell = told[0]
    inlets = bed.inlet_cells()
    if not bed.has_cell(cell):
        return [NOT_AS_TOLD]
    if not inlets:
        return [NO_INLET]
    return [wetting_inlet(bed.cells, inlets, cell)]


def ask_last(bed, told):
    inlets = bed.inlet_cells()
    if not inlets:
        return [NO_INLET]
    minutes = all_wet_minutes(bed.cells, inlets)
    latest = max(minutes)
    return [latest, minutes.index(latest)]


def ask_air(bed, told):
    places = shut_in_cells(bed.cells, bed.inlet_cells(), bed.vent_cells())
    return [len(places)] + places
