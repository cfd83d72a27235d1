"""Floors: rows of signs, the cells among their places, and where a slab may lie."""

from slabfloor.errors import NoCell, Ragged, StrangeSign, TooLarge

MOST = 12

PILLAR = "#"
SIGNS = ".-|#"

# Each step from a place to a neighbour: rows down, columns to the right, and the
# signs that take a slab that way. In this order the neighbours' numbers rise.
STEPS = (
    (-1, 0, ".|"),
    (0, -1, ".-"),
    (0, 1, ".-"),
    (1, 0, ".|"),
)


def _refuse_wrong(rows):
    if len(rows) > MOST or any(len(row) > MOST for row in rows):
        raise TooLarge(f"a floor has at most {MOST} rows of at most {MOST} signs")
    if any(len(row) != len(rows[0]) for row in rows):
        raise Ragged("the rows of a floor have one length")
    if any(sign not in SIGNS for row in rows for sign in row):
        raise StrangeSign("the signs of a floor are . - | and #")


def _sign_at(rows, row, column):
    # What lies outside of the floor takes no slab, just as a pillar does.
    if 0 <= row < len(rows) and 0 <= column < len(rows[row]):
        return rows[row][column]
    return PILLAR


def _neighbours(rows, row, column):
    wide = len(rows[row])
    sign = rows[row][column]
    found = []
    for down, right, takers in STEPS:
        if sign in takers and _sign_at(rows, row + down, column + right) in takers:
            found.append((row + down) * wide + column + right)
    return found


def _neighbours_of_cells(rows, wide):
    table = {}
    for row in range(len(rows)):
        for column in range(wide):
            if rows[row][column] != PILLAR:
                table[row * wide + column] = _neighbours(rows, row, column)
    return table


def refuse_no_cell(floor, number):
    """Refuse a number that is no cell of a floor."""
    if not floor.has(number):
        # The number is not told: Python refuses to write out a very long one.
        raise NoCell("this number is no cell of the floor")


class Floor:
    """A floor of cells, told by rows of signs."""

    def __init__(self, rows):
        _refuse_wrong(rows)
        self.rows = list(rows)
        self.high = len(rows)
        self.wide = len(rows[0]) if rows else 0
        # The methods read these two and never self.rows: whatever is done to
        # that list changes nothing else.
        self._signs = tuple(rows)
        self._neighbours = _neighbours_of_cells(self._signs, self.wide)

    def cells(self):
        """All cells, rising."""
        return list(self._neighbours)

    def has(self, place):
        """Whether a number is a cell."""
        return place in self._neighbours

    def row_and_column(self, place):
        """The row and the column of a place, pillars too."""
        # A floor of no width has no places; the 1 only keeps clear of dividing by nought.
        return divmod(place, max(self.wide, 1))

    def sign(self, row, column):
        """The sign in a row and a column, that of a pillar outside of the floor."""
        return _sign_at(self._signs, row, column)

    def shade(self, place):
        """The shade of a place, 0 or 1, pillars too."""
        row, column = self.row_and_column(place)
        return (row + column) % 2

    def may(self, one, other):
        """Whether two numbers are cells beside one another."""
        return self.has(one) and other in self._neighbours[one]

    def beside(self, cell):
        """The cells beside a cell, rising."""
        refuse_no_cell(self, cell)
        return list(self._neighbours[cell])
