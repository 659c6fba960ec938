"""When fronts are where. Cells are what each one resists; inlets and vents are cells' numbers, rising."""


def front_minutes(cells, inlet, cell):
    """When a front from an inlet's cell is at a cell, to either side."""
    step = 1 if inlet <= cell else -1
    resisted = 0
    minutes = 0
    for place in range(inlet, cell + step, step):
        resisted += cells[place]
        minutes += resisted
    return minutes


def wetting_inlet(cells, inlets, cell):
    """Which inlet's front is first at a cell; there must be an inlet."""
    # min keeps the first of like ones: as inlets rise, that's the lesser number
    return min(inlets, key=lambda inlet: front_minutes(cells, inlet, cell))


def wet_minutes(cells, inlets, cell):
    """When a cell is wet; there must be an inlet."""
    return front_minutes(cells, wetting_inlet(cells, inlets, cell), cell)


def all_wet_minutes(cells, inlets):
    """When each cell is wet, cell by cell; there must be an inlet."""
    return [wet_minutes(cells, inlets, cell) for cell in range(len(cells))]


def shut_in_cells(cells, inlets, vents):
    """The cells at which air is shut in towards the next one, rising."""
    # without an inlet nothing is wetted, so no two fronts meet
    if not inlets:
        return []
    wetted_from = [wetting_inlet(cells, inlets, cell) for cell in range(len(cells))]
    meetings = [cell for cell in range(len(cells) - 1) if wetted_from[cell] != wetted_from[cell + 1]]
    return [cell for cell in meetings if cell not in vents and cell + 1 not in vents]
