"""Floors: points 1 to 6, and the interface of slabfloor/floor.py."""

import itertools
import unittest

from slabfloor import floor as floor_file
from slabfloor.errors import FloorError, NoCell, Ragged, StrangeSign, TooLarge
from slabfloor.floor import MOST, Floor

from helpers import (
    ALL_SIGNS_12, ENDLESS, FLOORS, HUGE, ORDINARY, TINY, lie_of, numbers_around, parameters, refusal, told_beside,
)


class Interface(unittest.TestCase):
    def test_names_and_parameters(self):
        self.assertEqual(parameters(Floor), ["rows"])
        self.assertEqual(parameters(Floor.cells), ["self"])
        self.assertEqual(parameters(Floor.has), ["self", "place"])
        self.assertEqual(parameters(Floor.shade), ["self", "place"])
        self.assertEqual(parameters(Floor.may), ["self", "one", "other"])
        self.assertEqual(parameters(Floor.beside), ["self", "cell"])

    def test_parameters_by_name(self):
        floor = Floor(rows=["..", "##"])
        self.assertIs(floor.has(place=0), True)
        self.assertEqual(floor.shade(place=1), 1)
        self.assertIs(floor.may(one=0, other=1), True)
        self.assertEqual(floor.beside(cell=0), [1])

    def test_defined_in_this_file_and_class(self):
        self.assertEqual(Floor.__module__, "slabfloor.floor")
        for name in ("cells", "has", "shade", "may", "beside"):
            self.assertIn(name, vars(Floor))

    def test_most(self):
        self.assertEqual(MOST, 12)
        self.assertIs(type(floor_file.MOST), int)

    def test_fields_are_set_on_each_object(self):
        for rows in FLOORS:
            self.assertLessEqual({"rows", "high", "wide"}, set(vars(Floor(rows))))


class Sizes(unittest.TestCase):
    def test_told_sizes(self):
        for rows, high, wide in (
            ([], 0, 0),
            ([""], 1, 0),
            (["", ""], 2, 0),
            ([""] * 12, 12, 0),
            (["."], 1, 1),
            (["." * 12], 1, 12),
            (["."] * 12, 12, 1),
            (["..-", "|#."], 2, 3),
            (["." * 12] * 12, 12, 12),
        ):
            with self.subTest(rows=rows):
                floor = Floor(rows)
                self.assertEqual((floor.high, floor.wide), (high, wide))

    def test_every_size_up_to_twelve(self):
        for high in range(13):
            for wide in range(13):
                floor = Floor(["." * wide] * high)
                self.assertEqual((floor.high, floor.wide), (high, wide if high else 0))
                self.assertEqual(floor.cells(), list(range(high * wide)))

    def test_rows_are_those_that_were_handed_in(self):
        for rows in FLOORS:
            told = Floor(rows).rows
            self.assertIs(type(told), list)
            self.assertEqual(told, rows)


class Cells(unittest.TestCase):
    def test_told_cells(self):
        for rows, cells in (
            ([], []),
            ([""] * 12, []),
            (["#"], []),
            ([".-|#"], [0, 1, 2]),
            (["#", "|", "-", "#", "."], [1, 2, 4]),
            (ORDINARY, [0, 1, 2, 4, 5, 6, 7, 9, 10, 11, 12, 13, 14, 15]),
            (["." * 12] * 12, list(range(144))),
        ):
            with self.subTest(rows=rows):
                told = Floor(rows).cells()
                self.assertIs(type(told), list)
                self.assertEqual(told, cells)

    def test_cells_and_has_on_each_floor(self):
        for rows in FLOORS + TINY:
            with self.subTest(rows=rows):
                floor = Floor(rows)
                cells = [place for place, (_, _, sign) in lie_of(rows).items() if sign != "#"]
                self.assertEqual(floor.cells(), cells)
                for number in numbers_around(rows):
                    self.assertIs(floor.has(number), number in cells)

    def test_has_of_numbers_that_are_no_place(self):
        floor = Floor(["..", ".."])
        for number in (-1, -4, -5, 4, 5, HUGE, -HUGE, ENDLESS, -ENDLESS):
            self.assertIs(floor.has(number), False)


class Shades(unittest.TestCase):
    def test_told_shades(self):
        for rows, shades in (
            (["...."], [0, 1, 0, 1]),
            ([".", ".", "."], [0, 1, 0]),
            (["..", ".."], [0, 1, 1, 0]),
            (["...", "..."], [0, 1, 0, 1, 0, 1]),
            (["####", "####"], [0, 1, 0, 1, 1, 0, 1, 0]),
            ([".-|#", "#|-."], [0, 1, 0, 1, 1, 0, 1, 0]),
        ):
            with self.subTest(rows=rows):
                floor = Floor(rows)
                self.assertEqual([floor.shade(place) for place in range(len(shades))], shades)

    def test_shade_of_each_place(self):
        for rows in FLOORS:
            floor = Floor(rows)
            for place, (row, column, _) in lie_of(rows).items():
                self.assertEqual(floor.shade(place), (row + column) % 2)
                self.assertIs(type(floor.shade(place)), int)

    def test_cells_beside_one_another_have_different_shades(self):
        for rows in FLOORS:
            floor = Floor(rows)
            for cell in floor.cells():
                for other in floor.beside(cell):
                    self.assertEqual(floor.shade(cell) + floor.shade(other), 1)

    def test_shade_of_a_number_beyond_raises_nothing(self):
        for rows in ([], [""], ["", ""], ["..", ".."]):
            for number in (-1, 0, 4, 100, HUGE):
                self.assertIn(Floor(rows).shade(number), (0, 1))


class May(unittest.TestCase):
    def test_signs_in_a_row(self):
        for signs in itertools.product(".-|#", repeat=2):
            with self.subTest(signs=signs):
                floor = Floor(["".join(signs)])
                taken = set(signs) <= {".", "-"}
                self.assertIs(floor.may(0, 1), taken)
                self.assertIs(floor.may(1, 0), taken)

    def test_signs_in_a_column(self):
        for signs in itertools.product(".-|#", repeat=2):
            with self.subTest(signs=signs):
                floor = Floor(list(signs))
                taken = set(signs) <= {".", "|"}
                self.assertIs(floor.may(0, 1), taken)
                self.assertIs(floor.may(1, 0), taken)

    def test_no_cell_is_beside_itself(self):
        for rows in FLOORS:
            floor = Floor(rows)
            for number in numbers_around(rows):
                self.assertIs(floor.may(number, number), False)

    def test_end_of_a_row_and_start_of_the_next(self):
        for rows in (["..", ".."], ["--", "--"], ["...", "..."], ["." * 12] * 12):
            floor = Floor(rows)
            for row in range(1, floor.high):
                start = row * floor.wide
                self.assertIs(floor.may(start - 1, start), False)
                self.assertIs(floor.may(start, start - 1), False)

    def test_one_column_goes_on_from_row_to_row(self):
        self.assertIs(Floor([".", "."]).may(0, 1), True)
        self.assertIs(Floor(["-", "-"]).may(0, 1), False)

    def test_not_two_apart_nor_aslant(self):
        floor = Floor(["...", "...", "..."])
        for one, other in ((0, 2), (0, 6), (0, 4), (1, 3), (4, 8), (0, 8), (2, 6)):
            self.assertIs(floor.may(one, other), False)
            self.assertIs(floor.may(other, one), False)

    def test_numbers_outside(self):
        floor = Floor(["...", "...", "..."])
        for one, other in ((-1, 0), (-1, 2), (-3, 0), (-2, -1), (8, 9), (6, 9), (8, 11), (9, 10), (0, HUGE),
                           (HUGE, HUGE + 1), (HUGE, HUGE + 3), (-HUGE, 0), (0, ENDLESS), (-ENDLESS, ENDLESS)):
            self.assertIs(floor.may(one, other), False)
            self.assertIs(floor.may(other, one), False)

    def test_all_pairs_of_numbers(self):
        for rows in FLOORS:
            with self.subTest(rows=rows):
                floor = Floor(rows)
                lie = lie_of(rows)
                for one in numbers_around(rows):
                    for other in numbers_around(rows):
                        self.assertIs(floor.may(one, other), told_beside(lie, one, other))

    def test_all_tiny_floors(self):
        for rows in TINY:
            floor = Floor(rows)
            lie = lie_of(rows)
            for one in range(-3, len(lie) + 3):
                for other in range(-3, len(lie) + 3):
                    self.assertIs(floor.may(one, other), told_beside(lie, one, other), (rows, one, other))


class Lie(unittest.TestCase):
    def test_row_column_and_sign_of_each_place(self):
        for rows in FLOORS:
            floor = Floor(rows)
            for place, (row, column, sign) in lie_of(rows).items():
                self.assertEqual(floor.row_and_column(place), (row, column))
                self.assertEqual(floor.sign(row, column), sign)

    def test_outside_there_are_pillars(self):
        for row, column in ((-1, 0), (0, -1), (2, 0), (0, 3), (-1, -1), (HUGE, 0), (0, -HUGE)):
            self.assertEqual(Floor(["...", "---"]).sign(row, column), "#")


class Beside(unittest.TestCase):
    def test_told_neighbours(self):
        floor = Floor(["...", "...", "..."])
        self.assertEqual(floor.beside(4), [1, 3, 5, 7])
        self.assertEqual(floor.beside(0), [1, 3])
        self.assertEqual(floor.beside(2), [1, 5])
        self.assertEqual(floor.beside(6), [3, 7])
        self.assertEqual(floor.beside(8), [5, 7])
        self.assertEqual(Floor(["."]).beside(0), [])
        self.assertEqual(Floor([".", ".", "."]).beside(1), [0, 2])
        self.assertEqual(Floor(["...", ".-.", "..."]).beside(4), [3, 5])
        self.assertEqual(Floor(["...", ".|.", "..."]).beside(4), [1, 7])
        self.assertEqual(Floor([".#.", "#.#", ".#."]).beside(4), [])

    def test_each_cell_of_each_floor(self):
        for rows in FLOORS + TINY:
            with self.subTest(rows=rows):
                floor = Floor(rows)
                lie = lie_of(rows)
                for cell in floor.cells():
                    told = floor.beside(cell)
                    self.assertIs(type(told), list)
                    self.assertEqual(told, [other for other in lie if told_beside(lie, cell, other)])

    def test_no_cell(self):
        for rows in FLOORS:
            floor = Floor(rows)
            cells = floor.cells()
            for number in numbers_around(rows):
                self.assertIs(refusal(floor.beside, number), None if number in cells else NoCell)

    def test_no_cell_is_caught_as_floor_error_and_value_error(self):
        floor = Floor([".#", ".."])
        for number in (1, -1, 4, HUGE, ENDLESS):
            for caught in (NoCell, FloorError, ValueError):
                with self.assertRaises(caught):
                    floor.beside(number)


class RefusedRows(unittest.TestCase):
    def check(self, rows, kind):
        before = list(rows)
        with self.subTest(rows=rows):
            self.assertIs(refusal(Floor, rows), kind)
            for caught in (FloorError, ValueError):
                with self.assertRaises(caught):
                    Floor(rows)
            self.assertEqual(rows, before)

    def test_too_many_rows(self):
        for many in (13, 14, 25, 144, 1000):
            for row in ("", ".", "#", "." * 12):
                self.check([row] * many, TooLarge)

    def test_too_many_signs(self):
        for many in (13, 14, 25, 1000):
            self.check(["." * many], TooLarge)
            self.check(["." * many] * 12, TooLarge)
            self.check(["#" * many] * 2, TooLarge)

    def test_any_row_may_be_the_ragged_one(self):
        self.check([".", ""], Ragged)
        self.check(["", "."], Ragged)
        self.check(["..", "..", "."], Ragged)
        self.check(["..", "...", ".."], Ragged)
        self.check(["...", "..", ".."], Ragged)
        self.check(["." * 12] * 11 + ["." * 11], Ragged)
        self.check([""] * 11 + ["#"], Ragged)

    def test_strange_signs(self):
        for sign in ("o", "<", ">", "^", "v", " ", "x", "+", "_", "/", ",", ":", "0", "\n", "\0", "\u2014", "\u00b7"):
            self.check([sign], StrangeSign)
            self.check(["..." + sign], StrangeSign)
            self.check([sign + "..."], StrangeSign)
            self.check(["..", "#" + sign, "--"], StrangeSign)
            self.check(["." * 12] * 11 + ["." * 11 + sign], StrangeSign)

    def test_too_large_comes_ahead_of_ragged(self):
        self.check([".", "." * 13], TooLarge)
        self.check(["." * 13, "."], TooLarge)
        self.check(["..", ".", "." * 13], TooLarge)
        self.check([".", ".."] + ["."] * 11, TooLarge)
        self.check([""] * 12 + ["."], TooLarge)

    def test_too_large_comes_ahead_of_strange_sign(self):
        self.check(["x" * 13], TooLarge)
        self.check(["x" * 12, "." * 13], TooLarge)
        self.check(["x"] * 13, TooLarge)
        self.check(["." * 13, "x" * 13], TooLarge)

    def test_ragged_comes_ahead_of_strange_sign(self):
        self.check(["x", ".."], Ragged)
        self.check([".", "xx"], Ragged)
        self.check(["xx", "xx", "x"], Ragged)
        self.check(["", "x"], Ragged)

    def test_all_three_together(self):
        self.check(["x", "..", "." * 13], TooLarge)
        self.check(["x", ".."] + ["..."] * 11, TooLarge)

    def test_the_greatest_floors_are_not_refused(self):
        for rows in (["." * 12] * 12, ALL_SIGNS_12, [""] * 12, ["#" * 12], ["-"] * 12, ["|" * 12] * 12):
            self.assertIs(refusal(Floor, rows), None)


class NothingElseChanges(unittest.TestCase):
    def told(self, floor):
        """All that a floor tells, but its field rows."""
        lie = range(floor.high * floor.wide)
        return (
            floor.high,
            floor.wide,
            floor.cells(),
            [floor.has(place) for place in lie],
            [floor.shade(place) for place in lie],
            [floor.sign(*floor.row_and_column(place)) for place in lie],
            [floor.beside(cell) for cell in floor.cells()],
            [[floor.may(one, other) for one in lie] for other in lie],
        )

    def spoil(self, told):
        told.reverse()
        told.append(99)
        del told[0]
        told.insert(0, 77)
        told.clear()
        told.append(55)

    def test_the_rows_handed_in_stay(self):
        for rows in FLOORS:
            before = list(rows)
            floor = Floor(rows)
            self.told(floor)
            floor.rows.append("####")
            floor.rows.reverse()
            self.assertEqual(rows, before)

    def test_changing_the_rows_handed_in_changes_no_floor(self):
        for rows in (ORDINARY, [], [""], ["."], ["..", "##"]):
            handed = list(rows)
            floor = Floor(handed)
            before = self.told(floor)
            self.assertIsNot(floor.rows, handed)
            self.spoil(handed)
            self.assertEqual(floor.rows, rows)
            self.assertEqual(self.told(floor), before)

    def test_changing_the_field_rows_changes_nothing_else(self):
        for rows in (ORDINARY, [], [""], ["."], ["..", "##"]):
            handed = list(rows)
            floor = Floor(handed)
            other = Floor(handed)
            before = self.told(floor)
            self.spoil(floor.rows)
            self.assertEqual(self.told(floor), before)
            self.assertEqual(handed, rows)
            self.assertEqual(other.rows, rows)

    def test_changing_cells_changes_nothing_else(self):
        floor = Floor(ORDINARY)
        before = self.told(floor)
        self.assertIsNot(floor.cells(), floor.cells())
        self.spoil(floor.cells())
        self.assertEqual(self.told(floor), before)
        self.assertEqual(floor.rows, ORDINARY)

    def test_changing_beside_changes_nothing_else(self):
        floor = Floor(ORDINARY)
        before = self.told(floor)
        for cell in floor.cells():
            self.assertIsNot(floor.beside(cell), floor.beside(cell))
            self.spoil(floor.beside(cell))
            self.assertEqual(self.told(floor), before)
        self.assertEqual(floor.rows, ORDINARY)

    def test_a_refusal_changes_nothing(self):
        floor = Floor(ORDINARY)
        before = self.told(floor)
        self.assertIs(refusal(floor.beside, 3), NoCell)
        self.assertEqual(self.told(floor), before)
        self.assertEqual(floor.rows, ORDINARY)


if __name__ == "__main__":
    unittest.main()
