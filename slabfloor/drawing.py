"""Drawings: layings as rows of signs, and floors turned a quarter."""

from slabfloor.errors import NoDrawing
from slabfloor.floor import PILLAR, Floor
from slabfloor.laying import Laying

BARE = "o"
LEFT = "<"
RIGHT = ">"
UPPER = "^"
LOWER = "v"

# The sign of each place once the floor is turned: its rows are columns then.
TURNED = {".": ".", "-": "|", "|": "-", "#": "#"}


def _sign_drawn(laying, place):
    floor = laying.floor
    if not floor.has(place):
        return PILLAR
    if place not in laying.over:
        return BARE
    other = laying.over[place]
    row, _ = floor.row_and_column(place)
    other_row, _ = floor.row_and_column(other)
    if row == other_row:
        return LEFT if place < other else RIGHT
    return UPPER if place < other else LOWER


def drawn(laying):
    """The rows of signs that draw a laying."""
    wide = laying.floor.wide
    starts = [row * wide for row in range(laying.floor.high)]
    return ["".join([_sign_drawn(laying, start + column) for column in range(wide)]) for start in starts]


def _slabs_begun(floor, rows):
    """For each left or upper half that is drawn the two places of its slab, as if the rest were right."""
    slabs = []
    for row in range(len(rows)):
        for column in range(len(rows[row])):
            place = row * floor.wide + column
            if rows[row][column] == LEFT:
                slabs.append((place, place + 1))
            if rows[row][column] == UPPER:
                slabs.append((place, place + floor.wide))
    return slabs


def read(floor, rows):
    """The laying of a floor that rows of signs draw."""
    laying = Laying(floor)
    for one, other in _slabs_begun(floor, rows):
        if floor.may(one, other) and one not in laying.over and other not in laying.over:
            laying.put(one, other)
    # Whatever is wrong with the rows, no laying is drawn so; and where they draw
    # one, it has the slabs that were begun and no others.
    if drawn(laying) != rows:
        raise NoDrawing("the rows draw no laying of the floor")
    return laying


def quarter(floor):
    """The floor turned a quarter to the right."""
    up = range(floor.high - 1, -1, -1)
    rows = ["".join([TURNED[floor.sign(row, column)] for row in up]) for column in range(floor.wide)]
    return Floor(rows)


def quarter_place(floor, place):
    """The number that a place of a floor has on the floor turned a quarter."""
    row, column = floor.row_and_column(place)
    return column * floor.high + floor.high - 1 - row
