"""The fewest bare cells: points 11 to 14, and the interface of slabfloor/fewest.py."""

import unittest

from slabfloor.errors import FloorError, NoCell
from slabfloor.fewest import better, laid, painted, sparing
from slabfloor.floor import Floor
from slabfloor.laying import Laying

from helpers import (
    ALL_SIGNS_12, ENDLESS, FLOORS, GREAT, HUGE, ORDINARY, SMALL, TINY, all_layings, all_slabs, fewest_bare, greedy,
    kept, laying_of, lie_of, light_over_dark, numbers_around, parameters, refusal, slabs_allowed, told_neighbours,
    told_reached, told_shade, wrong_in_painting,
)

CORNERS = ["#......", ".......", ".......", "......#"]


class Interface(unittest.TestCase):
    def test_names_and_parameters(self):
        self.assertEqual(parameters(better), ["laying"])
        self.assertEqual(parameters(laid), ["floor"])
        self.assertEqual(parameters(painted), ["laying", "shade"])
        self.assertEqual(parameters(sparing), ["floor", "cell"])

    def test_parameters_by_name(self):
        floor = Floor(["..."])
        laying = laid(floor=floor)
        self.assertIsNone(better(laying=laying))
        self.assertEqual(painted(laying=laying, shade=0), [0, 2])
        self.assertEqual(sparing(floor=floor, cell=2)[0].bare(), [2])

    def test_defined_in_this_file(self):
        for deed in (better, laid, painted, sparing):
            self.assertEqual(deed.__module__, "slabfloor.fewest")

    def test_kinds_of_values(self):
        floor = Floor(["..."])
        self.assertIs(type(better(Laying(floor))), Laying)
        self.assertIs(type(laid(floor)), Laying)
        self.assertIs(type(painted(Laying(floor), 1)), list)
        self.assertIs(type(sparing(floor, 0)), tuple)
        self.assertIs(type(sparing(floor, 1)), tuple)
        self.assertIs(type(sparing(floor, 0)[0]), Laying)
        self.assertIs(type(sparing(floor, 1)[1]), list)


class Better(unittest.TestCase):
    def check(self, laying, rows):
        """What point 11 tells; whether there was a better one."""
        lie = lie_of(rows)
        found = told_reached(laying, rows, 0)
        before = kept(laying)
        told = better(laying)
        self.assertEqual(kept(laying), before)
        if not any(told_shade(lie, cell) == 1 and cell in found for cell in laying.bare()):
            self.assertIsNone(told)
            return False
        self.assertIsNot(told, laying)
        self.assertIs(told.floor, laying.floor)
        self.assertEqual(len(told.bare()), len(laying.bare()) - 2)
        self.assertLess(set(laying.over), set(told.over))
        self.check_laying(told, rows)
        return True

    def check_laying(self, laying, rows):
        covered = [cell for slab in laying.slabs() for cell in slab]
        self.assertEqual(len(covered), len(set(covered)))
        self.assertEqual(sorted(covered + laying.bare()), list(told_neighbours(rows)))
        self.assertLessEqual(set(laying.slabs()), set(slabs_allowed(rows)))

    def test_told_ones(self):
        told = better(laying_of(["...."], [(1, 2)]))
        self.assertEqual(told.slabs(), [(0, 1), (2, 3)])
        told = better(laying_of([".", ".", ".", "."], [(1, 2)]))
        self.assertEqual(told.slabs(), [(0, 1), (2, 3)])
        self.assertEqual(better(Laying(Floor([".."]))).slabs(), [(0, 1)])
        self.assertIsNone(better(laying_of([".."], [(0, 1)])))

    def test_two_bare_cells_of_one_shade(self):
        for slabs in ([(0, 1)], [(1, 2)]):
            self.assertIsNone(better(laying_of(["..."], slabs)))
        self.assertIsNone(better(laying_of(["...", "#.#"], [(0, 1)])))
        self.assertIsNone(better(Laying(Floor([".#.#."]))))
        self.assertIsNone(better(Laying(Floor(["#.#."]))))

    def test_bare_cells_of_both_shades_that_no_way_joins(self):
        self.assertIsNone(better(laying_of(["...#..."], [(0, 1), (5, 6)])))
        self.assertIsNone(better(Laying(Floor(["|-", "-|"]))))

    def test_floors_without_cells_and_of_one(self):
        for rows in ([], [""], [""] * 12, ["#"], ["##", "##"], ["."], ["-"], ["|"]):
            self.assertIsNone(better(Laying(Floor(rows))))

    def test_each_laying_of_each_small_floor(self):
        for rows in TINY + SMALL:
            with self.subTest(rows=rows):
                fewest = fewest_bare(rows)
                for laying in all_layings(rows):
                    is_better = self.check(laying, rows)
                    self.assertIs(is_better, len(laying.bare()) > fewest)

    def test_great_floors(self):
        for rows in FLOORS + GREAT:
            for laying in (Laying(Floor(rows)), greedy(rows)):
                while self.check(laying, rows):
                    laying = better(laying)

    def test_they_go_their_own_ways(self):
        laying = laying_of(["......"], [(1, 2)])
        before = kept(laying)
        told = better(laying)
        for one, _ in told.slabs():
            told.lift(one)
        self.assertEqual(kept(laying), before)
        told = better(laying)
        slabs = told.slabs()
        laying.lift(1)
        self.assertEqual(told.slabs(), slabs)


class Laid(unittest.TestCase):
    def check(self, rows, bare):
        floor = Floor(rows)
        before = kept(floor)
        laying = laid(floor)
        self.assertIs(laying.floor, floor)
        self.assertEqual(kept(floor), before)
        self.assertEqual(len(laying.bare()), bare)
        self.assertLessEqual(set(laying.slabs()), set(slabs_allowed(rows)))
        covered = [cell for slab in laying.slabs() for cell in slab]
        self.assertEqual(sorted(covered + laying.bare()), list(told_neighbours(rows)))
        self.assertEqual(sorted(laying.over), sorted(covered))

    def test_told_ones(self):
        for rows, bare in (
            ([], 0),
            ([""], 0),
            ([""] * 12, 0),
            (["#"], 0),
            (["##", "##"], 0),
            (["."], 1),
            (["-"], 1),
            ([".."], 0),
            (["-", "-"], 2),
            (["|", "|"], 0),
            (["||"], 2),
            (["..."], 1),
            ([".", ".", "."], 1),
            (["...", ".#.", "..."], 0),
            (["#..", "...", "..#"], 1),
            ([".#.", "...", ".#."], 3),
            (["#.#", "...", "#.#"], 3),
            (["#...", "....", "....", "...#"], 2),
            (CORNERS, 0),
            (["." * 12], 0),
            (["." * 11], 1),
            (["."] * 12, 0),
            (["."] * 11, 1),
            (["." * 12] * 12, 0),
            (["#" + "." * 11] + ["." * 12] * 10 + ["." * 11 + "#"], 2),
            (["." * 11] * 11, 1),
            (["-" * 11] * 12, 12),
            (["|" * 12] * 11, 12),
            (["#" * 12] * 12, 0),
            ([".#" * 6, "#." * 6] * 6, 72),
            (["." * 12, ".#" * 6] * 6, 36),
        ):
            with self.subTest(rows=rows):
                self.check(rows, bare)

    def test_as_few_as_the_best_of_all_layings_of_each_small_floor(self):
        for rows in TINY + SMALL:
            with self.subTest(rows=rows):
                self.check(rows, fewest_bare(rows))

    def test_a_painting_shows_that_no_laying_leaves_fewer(self):
        for rows in FLOORS + GREAT:
            with self.subTest(rows=rows):
                laying = laid(Floor(rows))
                self.check(rows, len(laying.bare()))
                for shade in (0, 1):
                    light = painted(laying, shade)
                    self.assertIsNone(wrong_in_painting(rows, light))
                    self.assertEqual(light_over_dark(rows, light), len(laying.bare()))

    def test_two_layings_of_one_floor_go_their_own_ways(self):
        floor = Floor(["..", ".."])
        first = laid(floor)
        second = laid(floor)
        self.assertIsNot(first, second)
        slabs = second.slabs()
        first.lift(0)
        self.assertEqual(second.slabs(), slabs)
        self.assertEqual(laid(floor).bare(), [])

    def test_changing_the_rows_changes_no_laying(self):
        floor = Floor(CORNERS)
        floor.rows.clear()
        self.assertEqual(laid(floor).bare(), [])


class Painted(unittest.TestCase):
    def check(self, laying, rows, shade, fewest):
        lie = lie_of(rows)
        found = told_reached(laying, rows, shade)
        before = kept(laying)
        light = painted(laying, shade)
        self.assertEqual(kept(laying), before)
        told = []
        for cell in told_neighbours(rows):
            if told_shade(lie, cell) == shade and cell in found:
                told.append(cell)
            if told_shade(lie, cell) != shade and cell not in found:
                told.append(cell)
        self.assertEqual(light, told)
        self.assertIsNone(wrong_in_painting(rows, light))
        self.assertLessEqual(light_over_dark(rows, light), fewest)
        if len(laying.bare()) == fewest:
            self.assertEqual(light_over_dark(rows, light), fewest)

    def test_told_ones(self):
        laying = laying_of(["....."], [(0, 1), (2, 3)])
        self.assertEqual(painted(laying, 0), [0, 2, 4])
        self.assertEqual(painted(laying, 1), [0, 2, 4])
        laying = laying_of(["...."], [(0, 1), (2, 3)])
        self.assertEqual(painted(laying, 0), [1, 3])
        self.assertEqual(painted(laying, 1), [0, 2])

    def test_a_laying_without_slabs(self):
        laying = Laying(Floor(["...", "..."]))
        self.assertEqual(painted(laying, 0), [0, 2, 4])
        self.assertEqual(painted(laying, 1), [1, 3, 5])
        laying = Laying(Floor([".#."]))
        self.assertEqual(painted(laying, 0), [0, 2])
        self.assertEqual(painted(laying, 1), [0, 2])

    def test_cells_that_take_no_slab_are_light(self):
        for shade in (0, 1):
            self.assertEqual(painted(Laying(Floor(["|-", "-|"])), shade), [0, 1, 2, 3])

    def test_pillars_are_not_painted(self):
        for shade in (0, 1):
            self.assertEqual(painted(Laying(Floor(["##", "##"])), shade), [])
            self.assertEqual(painted(Laying(Floor(["#.", "##"])), shade), [1])

    def test_floors_without_places(self):
        for rows in ([], [""], [""] * 12):
            for shade in (0, 1):
                self.assertEqual(painted(Laying(Floor(rows)), shade), [])

    def test_each_laying_of_each_small_floor(self):
        for rows in TINY + SMALL:
            with self.subTest(rows=rows):
                fewest = fewest_bare(rows)
                for laying in all_layings(rows):
                    for shade in (0, 1):
                        self.check(laying, rows, shade, fewest)

    def test_great_floors(self):
        for rows in GREAT:
            with self.subTest(rows=rows):
                best = laid(Floor(rows))
                for laying in (best, greedy(rows), Laying(best.floor)):
                    for shade in (0, 1):
                        self.check(laying, rows, shade, len(best.bare()))


class Sparing(unittest.TestCase):
    def check(self, floor, rows, cell, fewest):
        """What point 14 tells; whether the cell may be bare."""
        laying, light = sparing(floor, cell)
        if light is None:
            self.assertIs(laying.floor, floor)
            self.assertIn(cell, laying.bare())
            self.assertEqual(len(laying.bare()), fewest)
            self.assertLessEqual(set(laying.slabs()), set(slabs_allowed(rows)))
            return True
        self.assertIsNone(laying)
        self.assertEqual(light, sorted(light))
        self.assertEqual(len(light), len(set(light)))
        self.assertIsNone(wrong_in_painting(rows, light))
        self.assertEqual(light_over_dark(rows, light), fewest)
        self.assertNotIn(cell, light)
        return False

    def test_a_row_of_three(self):
        floor = Floor(["..."])
        for cell in (0, 2):
            laying, light = sparing(floor, cell)
            self.assertIsNone(light)
            self.assertEqual(laying.bare(), [cell])
        self.assertEqual(sparing(floor, 1), (None, [0, 2]))

    def test_one_cell(self):
        for sign in ".-|":
            laying, light = sparing(Floor([sign]), 0)
            self.assertIsNone(light)
            self.assertEqual((laying.bare(), laying.slabs()), ([0], []))

    def test_a_cell_that_can_not_be_bare(self):
        floor = Floor(["#.#", "...", "#.#"])
        self.assertEqual(sparing(floor, 4), (None, [1, 3, 5, 7]))
        for cell in (1, 3, 5, 7):
            self.assertTrue(self.check(floor, floor.rows, cell, 3))

    def test_floors_that_are_laid_whole(self):
        for rows in ([".."], [".", "."], ["..", ".."], ["." * 12] * 12, CORNERS):
            floor = Floor(rows)
            for cell in floor.cells():
                self.assertFalse(self.check(floor, rows, cell, 0))

    def test_either_shade_may_be_spared(self):
        floor = Floor(["...#...", "#######", "##..###"])
        may = [cell for cell in floor.cells() if self.check(floor, floor.rows, cell, 2)]
        self.assertEqual(may, [0, 2, 4, 6])
        floor = Floor(["#...#", "##.##", "....."])
        may = [cell for cell in floor.cells() if self.check(floor, floor.rows, cell, 1)]
        self.assertEqual(may, [cell for cell in floor.cells() if any_bare(floor.rows, cell)])

    def test_each_cell_of_each_small_floor(self):
        for rows in TINY + SMALL:
            with self.subTest(rows=rows):
                floor = Floor(rows)
                before = kept(floor)
                fewest = fewest_bare(rows)
                for cell in floor.cells():
                    self.assertIs(self.check(floor, rows, cell, fewest), any_bare(rows, cell))
                self.assertEqual(kept(floor), before)

    def test_great_floors(self):
        for rows in FLOORS + GREAT[:9]:
            with self.subTest(rows=rows):
                floor = Floor(rows)
                before = kept(floor)
                fewest = len(laid(floor).bare())
                for cell in floor.cells()[::3]:
                    self.check(floor, rows, cell, fewest)
                self.assertEqual(kept(floor), before)

    def test_no_cell(self):
        for rows in FLOORS:
            if len(rows) < 12:
                floor = Floor(rows)
                before = kept(floor)
                for number in numbers_around(rows):
                    kind = None if number in told_neighbours(rows) else NoCell
                    self.assertIs(refusal(sparing, floor, number), kind)
                self.assertEqual(kept(floor), before)

    def test_pillars_and_numbers_far_beyond_are_no_cells(self):
        for rows, number in (
            (["#"], 0),
            ([".#."], 1),
            (["..", ".."], 4),
            (["..", ".."], -1),
            (["." * 12] * 12, 144),
            (["." * 12] * 12, -144),
            (ALL_SIGNS_12, HUGE),
            (ALL_SIGNS_12, -HUGE),
            (ALL_SIGNS_12, ENDLESS),
            (ALL_SIGNS_12, -ENDLESS),
            ([], 0),
            ([""], 0),
            ([""] * 12, 11),
        ):
            for caught in (NoCell, FloorError, ValueError):
                with self.assertRaises(caught):
                    sparing(Floor(rows), number)


def any_bare(rows, cell):
    """Whether a cell is bare in any of all layings with the fewest bare cells."""
    most = max(len(slabs) for slabs in all_slabs(rows))
    best = (slabs for slabs in all_slabs(rows) if len(slabs) == most)
    return any(all(cell not in slab for slab in slabs) for slabs in best)


class NothingElseChanges(unittest.TestCase):
    def test_lists_are_new_each_time(self):
        laying = laid(Floor(ORDINARY))
        before = kept(laying)
        for shade in (0, 1):
            light = painted(laying, shade)
            first = list(light)
            self.assertIsNot(painted(laying, shade), light)
            light.clear()
            light.append(99)
            self.assertEqual(painted(laying, shade), first)
        self.assertEqual(kept(laying), before)

    def test_the_painting_of_sparing_is_new_each_time(self):
        floor = Floor([".....", ".#.#."])
        before = kept(floor)
        dark = [cell for cell in floor.cells() if sparing(floor, cell)[0] is None]
        self.assertTrue(dark)
        for cell in dark:
            light = sparing(floor, cell)[1]
            first = list(light)
            self.assertIsNot(sparing(floor, cell)[1], light)
            light.reverse()
            light.append(99)
            self.assertEqual(sparing(floor, cell)[1], first)
        self.assertEqual(kept(floor), before)

    def test_the_laying_of_sparing_is_new_each_time(self):
        floor = Floor(["..."])
        laying = sparing(floor, 0)[0]
        laying.lift(1)
        again = sparing(floor, 0)[0]
        self.assertIsNot(again, laying)
        self.assertEqual(again.slabs(), [(1, 2)])


if __name__ == "__main__":
    unittest.main()
