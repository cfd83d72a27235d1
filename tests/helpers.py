"""What several test files need: floors, numbers, and a plain second telling of the rules."""

import copy
import functools
import inspect
import itertools
import random

from slabfloor.errors import FloorError
from slabfloor.floor import Floor
from slabfloor.laying import Laying

HUGE = int("7" * 60)
# Python refuses to write out a number of so many digits.
ENDLESS = 10 ** 5000

ORDINARY = ["..-#", ".|-.", "#||.", "-..."]

ALL_SIGNS_12 = [
    "".join(".-|#...|-.#."[(3 * row + 5 * column + row * column) % 12] for column in range(12))
    for row in range(12)
]

FLOORS = [
    [],
    [""],
    ["", ""],
    [""] * 12,
    ["."],
    ["-"],
    ["|"],
    ["#"],
    ["..-.#-|.--||"],
    [".", "|", "-", ".", ".", "#", "|", "|", "."],
    ["....", "...."],
    ["###", "###"],
    ["...", "...", "..."],
    ["--", "--", "--"],
    ["||", "||", "||"],
    [".#.|", "-.-.", "||.."],
    ["-.|", ".#.", "|.-"],
    ORDINARY,
    ["." * 12] * 12,
    ALL_SIGNS_12,
]


def rows_of(signs, wide):
    return ["".join(signs[start:start + wide]) for start in range(0, len(signs), wide)]


# All floors of a few places: each sign in each place.
TINY = [
    rows_of(signs, wide)
    for high, wide in ((1, 1), (1, 2), (2, 1), (1, 3), (3, 1), (2, 2))
    for signs in itertools.product(".-|#", repeat=high * wide)
]


def drawn_by_lot(seed, high, wide, signs):
    """Rows of signs that are the same for the same numbers, whatever the run."""
    lot = random.Random(seed)
    return [
        "".join(signs[int(lot.random() * len(signs))] for _ in range(wide))
        for _ in range(high)
    ]


# Floors of which all layings can be gone through one by one.
SMALL = [rows for rows in FLOORS if sum(len(row) for row in rows) < 13] + [
    ["." * 8],
    ["."] * 7,
    ["-" * 5],
    ["|"] * 6,
    ["...", ".#.", "..."],
    [".#.", "...", ".#."],
    ["#.#", "...", "#.#"],
    ["..#", "...", "#.."],
    [".##", "...", "..."],
    ["....", "....", "...."],
    [".-..", "|...", "..|-"],
    ["#..#", "....", "#..#"],
    ["..#..", ".....", "#.#.#"],
] + [
    drawn_by_lot(seed, high, wide, "....--||#")
    for seed in range(6)
    for high, wide in ((3, 3), (2, 5), (4, 3), (3, 4))
]

# Floors of the greatest size, and long ones of one row and of one column.
GREAT = [
    ["." * 12] * 12,
    ["#" + "." * 11] + ["." * 12] * 10 + ["." * 11 + "#"],
    ["." * 11 + "#"] * 11 + ["#" * 12],
    ["-" * 12] * 12,
    ["|" * 12] * 12,
    ["#" * 12] * 12,
    [".#" * 6, "#." * 6] * 6,
    ["." * 12, ".#" * 6] * 6,
    ALL_SIGNS_12,
    ["." * 12],
    ["." * 11],
    ["."] * 12,
    ["."] * 11,
] + [
    drawn_by_lot(seed, 12, 12, signs)
    for seed in range(3)
    for signs in ("...#", "....--||#", ".-|#", ".-|")
]


def numbers_around(rows):
    """All places, and many numbers that are none."""
    places = sum(len(row) for row in rows)
    return list(range(-30, places + 30)) + [-HUGE, HUGE, -ENDLESS, ENDLESS]


def lie_of(rows):
    """A dict from each place to its row, its column and its sign."""
    told = [(r, c, sign) for r, row in enumerate(rows) for c, sign in enumerate(row)]
    return dict(enumerate(told))


def told_beside(lie, one, other):
    """What point 4 tells of two numbers."""
    if one not in lie or other not in lie:
        return False
    (row, column, sign), (row_2, column_2, sign_2) = lie[one], lie[other]
    if row == row_2 and abs(column - column_2) == 1:
        return sign in (".", "-") and sign_2 in (".", "-")
    if column == column_2 and abs(row - row_2) == 1:
        return sign in (".", "|") and sign_2 in (".", "|")
    return False


def told_shade(lie, place):
    """What point 5 tells of a place."""
    return (lie[place][0] + lie[place][1]) % 2


def told_neighbours(rows):
    """A dict from each cell to the list of the cells beside it, by point 4; nobody changes it."""
    return _neighbours_once(tuple(rows))


@functools.lru_cache(maxsize=None)
def _neighbours_once(rows):
    lie = lie_of(rows)
    cells = [place for place in lie if lie[place][2] != "#"]
    return {cell: [other for other in cells if told_beside(lie, cell, other)] for cell in cells}


def told_reached(laying, rows, shade):
    """The cells that point 10 tells of, as a set: taken in until nothing is left to take in."""
    lie = lie_of(rows)
    beside = told_neighbours(rows)
    taken = {cell for cell in beside if cell not in laying.over and told_shade(lie, cell) == shade}
    while True:
        more = set()
        for cell in taken:
            if told_shade(lie, cell) == shade:
                more.update(beside[cell])
            elif cell in laying.over:
                more.add(laying.over[cell])
        if more <= taken:
            return taken
        taken |= more


def slabs_allowed(rows):
    """All pairs of cells that a slab may lie on, the lesser cell first."""
    beside = told_neighbours(rows)
    return [(one, other) for one in beside for other in beside[one] if one < other]


def all_slabs(rows):
    """The slabs of each laying of a floor, one laying after the other."""
    allowed = slabs_allowed(rows)

    def from_here(at, slabs, taken):
        if at == len(allowed):
            yield list(slabs)
            return
        yield from from_here(at + 1, slabs, taken)
        one, other = allowed[at]
        if one not in taken and other not in taken:
            yield from from_here(at + 1, slabs + [allowed[at]], taken | {one, other})

    return from_here(0, [], frozenset())


def fewest_bare(rows):
    """How few cells the best of all layings of a small floor leaves bare."""
    cells = len(told_neighbours(rows))
    return min(cells - 2 * len(slabs) for slabs in all_slabs(rows))


def laying_of(rows, slabs):
    return put_on(Floor(rows), slabs)


def put_on(floor, slabs):
    laying = Laying(floor)
    for one, other in slabs:
        laying.put(one, other)
    return laying


def all_layings(rows):
    """Each laying of a small floor, all of them of one floor."""
    floor = Floor(rows)
    for slabs in all_slabs(rows):
        yield put_on(floor, slabs)


def greedy(rows):
    """A laying in which each cell in turn is covered, with the last cell beside it that is bare."""
    laying = Laying(Floor(rows))
    for cell in laying.floor.cells():
        free = [other for other in laying.floor.beside(cell) if other not in laying.over]
        if cell not in laying.over and free:
            laying.put(free[-1], cell)
    return laying


def is_way(laying, rows, way):
    """Whether cells are a way of a laying, as point 8 tells, to be turned or not."""
    beside = told_neighbours(rows)
    if not way or len(set(way)) != len(way) or any(cell not in beside for cell in way):
        return False
    if any(other not in beside[one] for one, other in zip(way, way[1:])):
        return False
    pairs = zip(way[1::2], way[2::2])
    return way[0] not in laying.over and all(laying.over.get(one) == other for one, other in pairs)


def wrong_in_painting(rows, light):
    """Two light cells on which a slab may lie, or a light number that is no cell; None where all is well."""
    beside = told_neighbours(rows)
    for cell in light:
        if cell not in beside:
            return cell
        for other in light:
            if other in beside[cell]:
                return cell, other
    return None


def light_over_dark(rows, light):
    """How many more light cells than dark ones there are."""
    return 2 * len(light) - len(told_neighbours(rows))


def kept(thing):
    """All that a floor or a laying holds, as a copy that nothing changes."""
    if isinstance(thing, Floor):
        return copy.deepcopy(vars(thing))
    return kept(thing.floor), dict(thing.over), list(thing.over), thing.bare(), thing.slabs()


def refusal(deed, *told):
    """The class of the error with which a call is refused, None where it is not."""
    try:
        deed(*told)
    except FloorError as e:
        return type(e)
    return None


def parameters(deed):
    return list(inspect.signature(deed).parameters)
