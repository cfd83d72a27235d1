"""Layings with the fewest bare cells, and paintings which show that none leaves fewer."""

from slabfloor.floor import refuse_no_cell
from slabfloor.laying import Laying
from slabfloor.ways import reached, turned, way_to


def better(laying):
    """A laying with two bare cells less, or None where there is none."""
    floor = laying.floor
    found = reached(laying, 0)
    for cell in laying.bare():
        if floor.shade(cell) == 1 and cell in found:
            return turned(laying, way_to(found, cell))
    return None


def laid(floor):
    """A laying of a floor with as few bare cells as can be."""
    laying = Laying(floor)
    fewer = better(laying)
    while fewer is not None:
        laying = fewer
        fewer = better(laying)
    return laying


def painted(laying, shade):
    """The light cells, rising: no slab may lie on two of them."""
    floor = laying.floor
    found = reached(laying, shade)
    return [cell for cell in floor.cells() if (floor.shade(cell) == shade) == (cell in found)]


def sparing(floor, cell):
    """A laying with the fewest bare cells that spares a cell, or a painting that shows that none does."""
    refuse_no_cell(floor, cell)
    laying = laid(floor)
    shade = floor.shade(cell)
    found = reached(laying, shade)
    if cell in found:
        # The way has an odd number of cells, as both its ends are of one shade.
        return turned(laying, way_to(found, cell)), None
    return None, painted(laying, shade)
