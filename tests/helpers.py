"""What several test files need: floors, numbers, and a plain second telling of the rules."""

import inspect

from slabfloor.errors import FloorError

HUGE = int("7" * 60)
# Python refuses to write out a number of so many digits.
ENDLESS = 10 ** 5000

ORDINARY = ["..-#", ".|-.", "#||.", "-..."]

ALL_SIGNS_12 = [
    "".join(".-|#...|-.#."[(3 * row + 5 * column + row * column) % 12] for column in range(12))
    for row in range(12)
]

FLOORS = [
    [],
    [""],
    ["", ""],
    [""] * 12,
    ["."],
    ["-"],
    ["|"],
    ["#"],
    ["..-.#-|.--||"],
    [".", "|", "-", ".", ".", "#", "|", "|", "."],
    ["....", "...."],
    ["###", "###"],
    ["...", "...", "..."],
    ["--", "--", "--"],
    ["||", "||", "||"],
    [".#.|", "-.-.", "||.."],
    ["-.|", ".#.", "|.-"],
    ORDINARY,
    ["." * 12] * 12,
    ALL_SIGNS_12,
]


def numbers_around(rows):
    """All places, and many numbers that are none."""
    places = sum(len(row) for row in rows)
    return list(range(-30, places + 30)) + [-HUGE, HUGE, -ENDLESS, ENDLESS]


def lie_of(rows):
    """A dict from each place to its row, its column and its sign."""
    told = [(r, c, sign) for r, row in enumerate(rows) for c, sign in enumerate(row)]
    return dict(enumerate(told))


def told_beside(lie, one, other):
    """What point 4 tells of two numbers."""
    if one not in lie or other not in lie:
        return False
    (row, column, sign), (row_2, column_2, sign_2) = lie[one], lie[other]
    if row == row_2 and abs(column - column_2) == 1:
        return sign in (".", "-") and sign_2 in (".", "-")
    if column == column_2 and abs(row - row_2) == 1:
        return sign in (".", "|") and sign_2 in (".", "|")
    return False


def refusal(deed, *told):
    """The class of the error with which a call is refused, None where it is not."""
    try:
        deed(*told)
    except FloorError as e:
        return type(e)
    return None


def parameters(deed):
    return list(inspect.signature(deed).parameters)
