"""Layings: the slabs that lie on a floor."""

from slabfloor.errors import Covered, NotBeside, Uncovered
from slabfloor.floor import refuse_no_cell


class Laying:
    """A laying of a floor, without slabs at first."""

    def __init__(self, floor):
        self.floor = floor
        self.over = {}

    def put(self, one, other):
        """Lay a slab on two cells."""
        refuse_no_cell(self.floor, one)
        refuse_no_cell(self.floor, other)
        if not self.floor.may(one, other):
            raise NotBeside("the two cells are not beside one another")
        if one in self.over or other in self.over:
            raise Covered("a slab covers one of the two cells already")
        self.over[one] = other
        self.over[other] = one

    def lift(self, cell):
        """Take away the slab that covers a cell."""
        refuse_no_cell(self.floor, cell)
        if cell not in self.over:
            raise Uncovered("no slab covers this cell")
        other = self.over[cell]
        del self.over[cell]
        del self.over[other]

    def bare(self):
        """The cells that no slab covers, rising."""
        return [cell for cell in self.floor.cells() if cell not in self.over]

    def slabs(self):
        """The slabs as pairs of cells, the lesser one first, rising."""
        return [(cell, self.over[cell]) for cell in sorted(self.over) if cell < self.over[cell]]

    def copied(self):
        """A laying of the very same floor with the same slabs, which goes its own way."""
        other = Laying(self.floor)
        other.over = dict(self.over)
        return other
