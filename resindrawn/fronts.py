"""When fronts are where. Cells are what each one resists; inlets and vents are cells' numbers, rising."""


def front_minutes(cells, inlet, cell):
    """When a front from an inlet's cell is at a cell, to either side."""
    step = 1 if inlet <= cell else -1
    resisted = 0
    minutes = 0
    for place in range(inlet, cell + step, step):
        resisted += cells[place]
        minutes += resisted
    return minutes


def front_times_from(cells, inlet):
    return [front_minutes(cells, inlet, cell) for cell in range(len(cells))]


def front_times(cells):
    """When fronts are at the cells: times[inlet][cell], as if each cell had an inlet."""
    return [front_times_from(cells, inlet) for inlet in range(len(cells))]


def wetting_inlet(times, inlets, cell):
    """Which inlet's front is first at a cell; there must be an inlet."""
    # min keeps the first of like ones: as inlets rise, that's the lesser number
    return min(inlets, key=lambda inlet: times[inlet][cell])


def wet_minutes(times, inlets, cell):
    """When a cell is wet; there must be an inlet."""
    return min([times[inlet][cell] for inlet in inlets])


def all_wet_minutes(times, inlets):
    """When each cell is wet, cell by cell; there must be an inlet."""
    return [wet_minutes(times, inlets, cell) for cell in range(len(times))]


def last_wet_minutes(times, inlets):
    """When all is wet; there must be an inlet."""
    return max(all_wet_minutes(times, inlets))


def wet_cells(times, inlets, within):
    """The cells that are wet within so many minutes, rising."""
    # without an inlet no cell is ever wet
    if not inlets:
        return []
    return [cell for cell in range(len(times)) if wet_minutes(times, inlets, cell) <= within]


def shut_in_cells(times, inlets, vents):
    """The cells at which air is shut in towards the next one, rising."""
    # without an inlet nothing is wetted, so no two fronts meet
    if not inlets:
        return []
    wetted_from = [wetting_inlet(times, inlets, cell) for cell in range(len(times))]
    meetings = [cell for cell in range(len(times) - 1) if wetted_from[cell] != wetted_from[cell + 1]]
    return [cell for cell in meetings if cell not in vents and cell + 1 not in vents]
