"""Layings: point 7, point 1 as far as it speaks of them, and the interface of slabfloor/laying.py."""

import unittest

from slabfloor.errors import Covered, FloorError, NoCell, NotBeside, Uncovered
from slabfloor.floor import Floor
from slabfloor.laying import Laying

from helpers import (
    ALL_SIGNS_12, ENDLESS, FLOORS, HUGE, ORDINARY, greedy, laying_of, numbers_around, parameters, refusal,
)

# 0 1 2
# 3 # 5
# 6 7 8
RING = ["...", ".#.", "..."]


def told(laying):
    """All that a laying tells of its slabs, as copies."""
    return dict(laying.over), list(laying.bare()), list(laying.slabs())


class Interface(unittest.TestCase):
    def test_names_and_parameters(self):
        self.assertEqual(parameters(Laying), ["floor"])
        self.assertEqual(parameters(Laying.put), ["self", "one", "other"])
        self.assertEqual(parameters(Laying.lift), ["self", "cell"])
        self.assertEqual(parameters(Laying.bare), ["self"])
        self.assertEqual(parameters(Laying.slabs), ["self"])
        self.assertEqual(parameters(Laying.copied), ["self"])

    def test_parameters_by_name(self):
        laying = Laying(floor=Floor([".."]))
        laying.put(one=1, other=0)
        self.assertEqual(laying.slabs(), [(0, 1)])
        laying.lift(cell=1)
        self.assertEqual(laying.slabs(), [])

    def test_defined_in_this_file_and_class(self):
        self.assertEqual(Laying.__module__, "slabfloor.laying")
        for name in ("put", "lift", "bare", "slabs", "copied"):
            self.assertIn(name, vars(Laying))

    def test_fields_are_set_on_each_object(self):
        laying = laying_of(RING, [(0, 1)])
        self.assertLessEqual({"floor", "over"}, set(vars(laying)))
        self.assertLessEqual({"floor", "over"}, set(vars(laying.copied())))

    def test_floor_is_the_very_one(self):
        for rows in FLOORS:
            floor = Floor(rows)
            laying = Laying(floor)
            self.assertIs(laying.floor, floor)
            self.assertIs(laying.copied().floor, floor)
            self.assertIs(laying.copied().copied().floor, floor)

    def test_kinds_of_values(self):
        laying = laying_of(RING, [(1, 0)])
        self.assertIs(type(laying.over), dict)
        self.assertIs(type(laying.bare()), list)
        self.assertIs(type(laying.slabs()), list)
        self.assertIs(type(laying.slabs()[0]), tuple)
        self.assertIs(type(laying.copied()), Laying)
        self.assertIs(type(laying.copied().over), dict)

    def test_put_and_lift_tell_nothing(self):
        laying = Laying(Floor(RING))
        self.assertIsNone(laying.put(0, 1))
        self.assertIsNone(laying.lift(0))


class Slabs(unittest.TestCase):
    def test_begins_without_slabs(self):
        for rows in FLOORS:
            floor = Floor(rows)
            laying = Laying(floor)
            self.assertEqual(laying.over, {})
            self.assertEqual(laying.slabs(), [])
            self.assertEqual(laying.bare(), floor.cells())

    def test_put_covers_both_cells(self):
        laying = Laying(Floor(RING))
        laying.put(0, 1)
        self.assertEqual(told(laying), ({0: 1, 1: 0}, [2, 3, 5, 6, 7, 8], [(0, 1)]))
        laying.put(8, 5)
        self.assertEqual(told(laying), ({0: 1, 1: 0, 8: 5, 5: 8}, [2, 3, 6, 7], [(0, 1), (5, 8)]))
        laying.put(6, 3)
        self.assertEqual(
            told(laying), ({0: 1, 1: 0, 8: 5, 5: 8, 6: 3, 3: 6}, [2, 7], [(0, 1), (3, 6), (5, 8)])
        )

    def test_put_on_all_that_a_floor_allows(self):
        for rows in FLOORS:
            floor = Floor(rows)
            for one in floor.cells():
                for other in floor.beside(one):
                    laying = Laying(floor)
                    laying.put(one, other)
                    self.assertEqual(laying.over, {one: other, other: one})
                    self.assertEqual(laying.slabs(), [(min(one, other), max(one, other))])
                    self.assertEqual(
                        laying.bare(), [cell for cell in floor.cells() if cell not in (one, other)]
                    )

    def test_slabs_and_bare_rise_whatever_the_order_of_putting(self):
        rows = ["." * 12] * 12
        pairs = [(12 * row + column, 12 * row + column + 1) for row in range(12) for column in range(0, 10, 2)]
        bare = [12 * row + column for row in range(12) for column in (10, 11)]
        for order in (pairs, pairs[::-1], pairs[7:] + pairs[:7], pairs[1::2] + pairs[::2]):
            for turned in (False, True):
                laying = laying_of(rows, [pair[::-1] if turned else pair for pair in order])
                self.assertEqual(laying.slabs(), pairs)
                self.assertEqual(laying.bare(), bare)

    def test_slabs_rise_by_the_lesser_cell(self):
        # The slab in the column reaches further down than all those in the first row.
        laying = laying_of(["...", "..."], [(2, 1), (3, 0), (4, 5)])
        self.assertEqual(laying.slabs(), [(0, 3), (1, 2), (4, 5)])

    def test_over_bare_and_slabs_agree(self):
        for rows in FLOORS:
            laying = greedy(rows)
            covered = [cell for slab in laying.slabs() for cell in slab]
            self.assertEqual(sorted(covered), sorted(laying.over))
            self.assertEqual(sorted(covered + laying.bare()), laying.floor.cells())
            for one, other in laying.slabs():
                self.assertLess(one, other)
                self.assertEqual((laying.over[one], laying.over[other]), (other, one))

    def test_lift_by_either_cell(self):
        for cell in (3, 6):
            laying = laying_of(RING, [(0, 1), (3, 6), (5, 8)])
            laying.lift(cell)
            self.assertEqual(
                told(laying), ({0: 1, 1: 0, 5: 8, 8: 5}, [2, 3, 6, 7], [(0, 1), (5, 8)])
            )

    def test_lift_the_only_one(self):
        laying = laying_of([".", "."], [(0, 1)])
        laying.lift(1)
        self.assertEqual(told(laying), ({}, [0, 1], []))

    def test_cells_can_be_covered_again_after_a_lift(self):
        laying = laying_of(["..", ".."], [(0, 1), (2, 3)])
        laying.lift(0)
        laying.lift(3)
        laying.put(3, 1)
        laying.put(0, 2)
        self.assertEqual(laying.slabs(), [(0, 2), (1, 3)])
        self.assertEqual(laying.over, {0: 2, 2: 0, 1: 3, 3: 1})
        self.assertEqual(laying.bare(), [])

    def test_bare_rises_after_lifts(self):
        laying = greedy(["." * 6] * 6)
        for cell in (30, 2, 17, 9):
            laying.lift(cell)
        self.assertEqual(laying.bare(), sorted(laying.bare()))
        self.assertEqual(len(laying.bare()), 8)

    def test_two_layings_of_one_floor(self):
        floor = Floor(RING)
        first = Laying(floor)
        second = Laying(floor)
        first.put(0, 1)
        self.assertEqual(told(second), ({}, floor.cells(), []))
        second.put(1, 2)
        self.assertEqual(first.slabs(), [(0, 1)])

    def test_the_floor_stays(self):
        for rows in FLOORS:
            floor = Floor(rows)
            cells = floor.cells()
            beside = [floor.beside(cell) for cell in cells]
            laying = Laying(floor)
            for one, other in greedy(rows).slabs():
                laying.put(one, other)
            for one, _ in laying.slabs()[::2]:
                laying.lift(one)
            self.assertEqual((floor.rows, floor.cells()), (rows, cells))
            self.assertEqual([floor.beside(cell) for cell in cells], beside)


class Refusals(unittest.TestCase):
    def check(self, laying, deed, numbers, kind):
        """A deed is refused with one class, caught by its bases too, and changes nothing."""
        before = told(laying)
        floor = laying.floor
        with self.subTest(deed=deed.__name__, kind=kind.__name__):
            self.assertIs(refusal(deed, *numbers), kind)
            for caught in (FloorError, ValueError):
                with self.assertRaises(caught):
                    deed(*numbers)
            self.assertEqual(told(laying), before)
            self.assertIs(laying.floor, floor)

    def strangers(self, laying):
        cells = laying.floor.cells()
        return [number for number in numbers_around(laying.floor.rows) if number not in cells]

    def test_put_no_cell(self):
        laying = laying_of(RING, [(0, 1)])
        for stranger in self.strangers(laying):
            self.check(laying, laying.put, (stranger, 5), NoCell)
            self.check(laying, laying.put, (5, stranger), NoCell)
            self.check(laying, laying.put, (stranger, stranger), NoCell)
            self.check(laying, laying.put, (stranger, stranger + 1 if stranger != -1 else 9), NoCell)

    def test_put_on_a_pillar_between_cells(self):
        laying = Laying(Floor(RING))
        for cell in (1, 3, 5, 7):
            self.check(laying, laying.put, (cell, 4), NoCell)
            self.check(laying, laying.put, (4, cell), NoCell)

    def test_put_on_a_floor_without_cells(self):
        for rows in ([], [""], [""] * 12, ["##", "##"]):
            laying = Laying(Floor(rows))
            for numbers in ((0, 0), (0, 1), (-1, 0), (HUGE, -HUGE)):
                self.check(laying, laying.put, numbers, NoCell)

    def test_put_not_beside(self):
        for rows in FLOORS:
            if len(rows) < 12:
                laying = Laying(Floor(rows))
                cells = laying.floor.cells()
                for one in cells:
                    for other in cells:
                        if not laying.floor.may(one, other):
                            self.check(laying, laying.put, (one, other), NotBeside)

    def test_put_on_one_cell_twice(self):
        laying = laying_of(RING, [(0, 1)])
        for cell in (0, 1, 2, 5):
            self.check(laying, laying.put, (cell, cell), NotBeside)

    def test_put_over_the_end_of_a_row(self):
        laying = laying_of(["..", ".."], [])
        self.check(laying, laying.put, (1, 2), NotBeside)
        self.check(laying, laying.put, (2, 1), NotBeside)

    def test_put_against_the_grain(self):
        laying = Laying(Floor(["--", "||"]))
        self.check(laying, laying.put, (0, 2), NotBeside)
        self.check(laying, laying.put, (2, 3), NotBeside)
        laying.put(0, 1)
        self.check(laying, laying.put, (3, 1), NotBeside)

    def test_put_covered(self):
        laying = laying_of(["....", "...."], [(1, 2)])
        for numbers in ((0, 1), (1, 0), (2, 3), (3, 2), (1, 5), (5, 1), (1, 2), (2, 1)):
            self.check(laying, laying.put, numbers, Covered)
        laying.put(5, 6)
        for numbers in ((1, 5), (6, 2), (5, 6), (4, 5), (7, 6)):
            self.check(laying, laying.put, numbers, Covered)

    def test_no_cell_comes_ahead_of_covered(self):
        laying = laying_of(RING, [(0, 1), (3, 6), (5, 8)])
        for stranger in (4, -1, -3, 9, 11, HUGE, ENDLESS):
            for covered in (0, 1, 3, 5, 8):
                self.check(laying, laying.put, (stranger, covered), NoCell)
                self.check(laying, laying.put, (covered, stranger), NoCell)

    def test_not_beside_comes_ahead_of_covered(self):
        laying = laying_of(RING, [(0, 1), (3, 6), (5, 8)])
        for numbers in ((0, 2), (2, 0), (2, 3), (3, 2), (0, 5), (5, 0), (1, 7), (8, 6), (0, 0), (8, 8)):
            self.check(laying, laying.put, numbers, NotBeside)

    def test_lift_no_cell(self):
        laying = laying_of(RING, [(0, 1), (5, 8)])
        for stranger in self.strangers(laying):
            self.check(laying, laying.lift, (stranger,), NoCell)
        for rows in ([], [""], ["#"]):
            empty = Laying(Floor(rows))
            self.check(empty, empty.lift, (0,), NoCell)

    def test_lift_uncovered(self):
        laying = laying_of(RING, [(0, 1), (5, 8)])
        for cell in (2, 3, 6, 7):
            self.check(laying, laying.lift, (cell,), Uncovered)
        laying.lift(1)
        for cell in (0, 1):
            self.check(laying, laying.lift, (cell,), Uncovered)

    def test_each_pair_of_numbers_on_one_floor(self):
        laying = laying_of(ORDINARY, [(0, 1), (9, 5), (11, 7)])
        floor = laying.floor
        for one in range(-5, 21):
            for other in range(-5, 21):
                if not (floor.has(one) and floor.has(other)):
                    self.check(laying, laying.put, (one, other), NoCell)
                elif not floor.may(one, other):
                    self.check(laying, laying.put, (one, other), NotBeside)
                elif one in (0, 1, 5, 9, 7, 11) or other in (0, 1, 5, 9, 7, 11):
                    self.check(laying, laying.put, (one, other), Covered)
                else:
                    copy = laying.copied()
                    self.assertIs(refusal(copy.put, one, other), None)
                    self.assertEqual((copy.over[one], copy.over[other]), (other, one))

    def test_deeds_go_on_after_refusals(self):
        laying = laying_of(RING, [(0, 1)])
        self.check(laying, laying.put, (1, 2), Covered)
        self.check(laying, laying.lift, (2,), Uncovered)
        laying.put(2, 5)
        laying.lift(0)
        self.assertEqual(laying.slabs(), [(2, 5)])


class Copies(unittest.TestCase):
    def test_same_slabs(self):
        for rows in FLOORS:
            laying = greedy(rows)
            copy = laying.copied()
            self.assertIsNot(copy, laying)
            self.assertIsNot(copy.over, laying.over)
            self.assertEqual(told(copy), told(laying))

    def test_copying_changes_nothing(self):
        laying = greedy(ALL_SIGNS_12)
        before = told(laying)
        laying.copied()
        self.assertEqual(told(laying), before)

    def test_the_copy_is_changed(self):
        laying = laying_of(RING, [(0, 1), (5, 8)])
        before = told(laying)
        copy = laying.copied()
        copy.put(3, 6)
        self.assertEqual(told(laying), before)
        copy.lift(0)
        copy.lift(8)
        self.assertEqual(told(laying), before)
        self.assertEqual(told(copy), ({3: 6, 6: 3}, [0, 1, 2, 5, 7, 8], [(3, 6)]))

    def test_the_first_one_is_changed(self):
        laying = laying_of(RING, [(0, 1), (5, 8)])
        copy = laying.copied()
        before = told(copy)
        laying.put(3, 6)
        laying.lift(1)
        laying.lift(5)
        self.assertEqual(told(copy), before)
        self.assertEqual(told(laying), ({3: 6, 6: 3}, [0, 1, 2, 5, 7, 8], [(3, 6)]))

    def test_a_copy_of_no_slabs(self):
        laying = Laying(Floor([".."]))
        copy = laying.copied()
        laying.put(0, 1)
        self.assertEqual(told(copy), ({}, [0, 1], []))

    def test_copies_of_copies(self):
        first = laying_of(RING, [(0, 1)])
        second = first.copied()
        third = second.copied()
        second.lift(0)
        third.put(5, 8)
        self.assertEqual(first.slabs(), [(0, 1)])
        self.assertEqual(second.slabs(), [])
        self.assertEqual(third.slabs(), [(0, 1), (5, 8)])


class NothingElseChanges(unittest.TestCase):
    def test_changing_the_lists_that_were_told(self):
        laying = laying_of(RING, [(0, 1), (5, 8)])
        before = told(laying)
        for tell in (laying.bare, laying.slabs):
            self.assertIsNot(tell(), tell())
            for spoil in (list.clear, list.reverse, list.pop):
                spoil(tell())
                self.assertEqual(told(laying), before)
            tell().append((2, 3))
            tell()[0] = 8
            self.assertEqual(told(laying), before)
        self.assertEqual(laying.floor.cells(), [0, 1, 2, 3, 5, 6, 7, 8])

    def test_the_bare_cells_of_no_slabs_are_a_list_of_their_own(self):
        laying = Laying(Floor(RING))
        laying.bare().clear()
        self.assertEqual(laying.bare(), [0, 1, 2, 3, 5, 6, 7, 8])
        self.assertEqual(laying.floor.cells(), [0, 1, 2, 3, 5, 6, 7, 8])

    def test_lists_told_earlier_stay(self):
        laying = laying_of(RING, [(0, 1)])
        bare = laying.bare()
        slabs = laying.slabs()
        laying.put(5, 8)
        laying.lift(0)
        self.assertEqual(bare, [2, 3, 5, 6, 7, 8])
        self.assertEqual(slabs, [(0, 1)])

    def test_changing_the_rows_changes_no_laying(self):
        rows = list(RING)
        floor = Floor(rows)
        laying = Laying(floor)
        laying.put(0, 1)
        before = told(laying)
        rows.clear()
        floor.rows.clear()
        self.assertEqual(told(laying), before)
        laying.put(6, 3)
        self.assertEqual(laying.slabs(), [(0, 1), (3, 6)])


if __name__ == "__main__":
    unittest.main()
