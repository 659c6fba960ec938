"""What is told of one row of cells, and the numbers by which a call is refused."""

NOT_STARTED = -11
NOT_AS_TOLD = -22
NO_INLET = -6
NONE_DOES = -33


class Bed:
    """A row of cells with all that is told of it; as long as it has no cells it isn't started."""

    def __init__(self):
        self.renew([])

    def renew(self, cells):
        # the cells are changed later on, so they must be the bed's own
        self.cells = list(cells)
        self.inlet_bits = 0
        self.vent_bits = 0
        self.warmths = []
        self.minutes = []
        self.resin_part = 100
        self.hardener_part = 30
        self.thousandths = 20

    def is_started(self):
        return len(self.cells) > 0

    def has_cell(self, cell):
        return 0 <= cell < len(self.cells)

    def has_cells_of(self, bits):
        return bits >> len(self.cells) == 0

    def inlet_cells(self):
        return self.cells_of(self.inlet_bits)

    def vent_cells(self):
        return self.cells_of(self.vent_bits)

    def cells_of(self, bits):
        return [cell for cell in range(len(self.cells)) if (bits >> cell) & 1 == 1]

    def how_many_of(self, bits):
        return len(self.cells_of(bits))

    def inlet_sets(self):
        """Every set of inlets but the empty one, as bits, rising."""
        return list(range(1, 1 << len(self.cells)))
