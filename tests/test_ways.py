"""Ways: points 8 to 10, and the interface of slabfloor/ways.py."""

import unittest

from slabfloor.floor import Floor
from slabfloor.laying import Laying
from slabfloor.ways import reached, turned, way_to

from helpers import (
    FLOORS, GREAT, SMALL, TINY, all_layings, greedy, is_way, kept, laying_of, lie_of, parameters, told_neighbours,
    told_reached, told_shade,
)

# 0 1 2 3
# 4 5 6 7
TWO_ROWS = ["....", "...."]


def all_ways(laying):
    """Each way of a laying that may be turned, by point 8."""
    beside = told_neighbours(laying.floor.rows)

    def from_here(way):
        # The way has an odd number of cells: it may end here, go on to a bare
        # cell and end there, or go on over a slab.
        yield way
        for other in beside[way[-1]]:
            if other not in way:
                if other not in laying.over:
                    yield way + [other]
                elif laying.over[other] not in way:
                    yield from from_here(way + [other, laying.over[other]])

    for cell in beside:
        if cell not in laying.over:
            yield from from_here([cell])


class Interface(unittest.TestCase):
    def test_names_and_parameters(self):
        self.assertEqual(parameters(reached), ["laying", "shade"])
        self.assertEqual(parameters(way_to), ["found", "cell"])
        self.assertEqual(parameters(turned), ["laying", "way"])

    def test_parameters_by_name(self):
        laying = laying_of(["..."], [(1, 2)])
        found = reached(laying=laying, shade=0)
        self.assertEqual(way_to(found=found, cell=2), [0, 1, 2])
        self.assertEqual(turned(laying=laying, way=[0, 1, 2]).slabs(), [(0, 1)])

    def test_defined_in_this_file(self):
        for deed in (reached, way_to, turned):
            self.assertEqual(deed.__module__, "slabfloor.ways")

    def test_kinds_of_values(self):
        laying = laying_of(TWO_ROWS, [(1, 2)])
        found = reached(laying, 0)
        self.assertIs(type(found), dict)
        self.assertIs(type(way_to(found, 0)), list)
        self.assertIs(type(turned(laying, [0])), Laying)


class Reached(unittest.TestCase):
    def check(self, laying, rows, shade):
        lie = lie_of(rows)
        found = reached(laying, shade)
        self.assertEqual(set(found), told_reached(laying, rows, shade))
        for cell in found:
            is_start = cell not in laying.over and told_shade(lie, cell) == shade
            self.assertIs(found[cell] is None, is_start)
            way = way_to(found, cell)
            self.assertTrue(is_way(laying, rows, way), way)
            self.assertEqual(way[-1], cell)
            self.assertEqual(told_shade(lie, way[0]), shade)
            self.assertIsNone(found[way[0]])
            self.assertEqual([found[other] for other in way[1:]], way[:-1])
            self.assertEqual(len(way) % 2, 1 if told_shade(lie, cell) == shade else 0)

    def test_told_ones(self):
        laying = laying_of(["...."], [(1, 2)])
        self.assertEqual(reached(laying, 0), {0: None, 1: 0, 2: 1, 3: 2})
        self.assertEqual(reached(laying, 1), {3: None, 2: 3, 1: 2, 0: 1})

    def test_a_row_laid_from_its_left_end(self):
        laying = laying_of(["....."], [(0, 1), (2, 3)])
        self.assertEqual(reached(laying, 0), {4: None, 3: 4, 2: 3, 1: 2, 0: 1})
        self.assertEqual(reached(laying, 1), {})

    def test_a_row_laid_from_its_right_end(self):
        laying = laying_of(["....."], [(1, 2), (3, 4)])
        self.assertEqual(reached(laying, 0), {0: None, 1: 0, 2: 1, 3: 2, 4: 3})

    def test_bare_cells_of_the_other_shade_are_reached_from_beside_alone(self):
        laying = laying_of([".#..#."], [])
        self.assertEqual(reached(laying, 0), {0: None, 2: None, 3: 2})
        self.assertEqual(reached(laying, 1), {3: None, 5: None, 2: 3})

    def test_nothing_goes_on_from_a_bare_cell_of_the_other_shade(self):
        laying = laying_of(["...."], [(2, 3)])
        self.assertEqual(reached(laying, 0), {0: None, 1: 0})
        self.assertEqual(reached(laying, 1), {1: None, 0: 1, 2: 1, 3: 2})

    def test_a_slab_that_is_not_reached(self):
        laying = laying_of([".|.", "--#"], [(3, 4)])
        self.assertEqual(reached(laying, 0), {0: None, 2: None})
        self.assertEqual(reached(laying, 1), {1: None})

    def test_the_other_shade_is_not_left_over_a_neighbour(self):
        # From shade 1 nothing begins, though cells of that shade have neighbours.
        laying = laying_of(["..."], [(0, 1)])
        self.assertEqual(reached(laying, 1), {})
        self.assertEqual(reached(laying, 0), {2: None, 1: 2, 0: 1})

    def test_a_laying_without_slabs(self):
        laying = Laying(Floor(TWO_ROWS))
        found = reached(laying, 0)
        self.assertEqual(sorted(found), list(range(8)))
        self.assertEqual([cell for cell in sorted(found) if found[cell] is None], [0, 2, 5, 7])
        found = reached(laying, 1)
        self.assertEqual([cell for cell in sorted(found) if found[cell] is None], [1, 3, 4, 6])

    def test_a_laying_without_bare_cells(self):
        laying = laying_of(TWO_ROWS, [(0, 4), (1, 2), (5, 6), (3, 7)])
        self.assertEqual(reached(laying, 0), {})
        self.assertEqual(reached(laying, 1), {})

    def test_floors_without_cells(self):
        for rows in ([], [""], [""] * 12, ["#"], ["##", "##"], ["#" * 12] * 12):
            for shade in (0, 1):
                self.assertEqual(reached(Laying(Floor(rows)), shade), {})

    def test_one_cell(self):
        for sign in ".-|":
            self.assertEqual(reached(Laying(Floor([sign])), 0), {0: None})
            self.assertEqual(reached(Laying(Floor([sign])), 1), {})
            self.assertEqual(reached(Laying(Floor(["#" + sign])), 1), {1: None})

    def test_each_laying_of_each_small_floor(self):
        for rows in TINY + SMALL:
            with self.subTest(rows=rows):
                for laying in all_layings(rows):
                    for shade in (0, 1):
                        self.check(laying, rows, shade)

    def test_great_floors(self):
        for rows in FLOORS + GREAT:
            with self.subTest(rows=rows):
                for laying in (Laying(Floor(rows)), greedy(rows)):
                    for shade in (0, 1):
                        self.check(laying, rows, shade)

    def test_changing_the_rows_changes_nothing(self):
        laying = laying_of(["...."], [(1, 2)])
        laying.floor.rows.clear()
        self.assertEqual(reached(laying, 0), {0: None, 1: 0, 2: 1, 3: 2})


class WayTo(unittest.TestCase):
    def test_one_cell(self):
        found = reached(laying_of(TWO_ROWS, [(1, 2)]), 0)
        for cell in (0, 5, 7):
            self.assertEqual(way_to(found, cell), [cell])

    def test_the_order_of_the_way(self):
        found = reached(laying_of(["......"], [(1, 2), (3, 4)]), 0)
        for last in range(6):
            self.assertEqual(way_to(found, last), list(range(last + 1)))
        found = reached(laying_of(["......"], [(1, 2), (3, 4)]), 1)
        for last in range(6):
            self.assertEqual(way_to(found, last), list(range(5, last - 1, -1)))

    def test_a_way_around_pillars(self):
        laying = laying_of(["...", "##.", "..."], [(1, 2), (5, 8)])
        self.assertEqual(way_to(reached(laying, 0), 7), [6, 7])
        self.assertEqual(way_to(reached(laying, 0), 8), [0, 1, 2, 5, 8])


class Turned(unittest.TestCase):
    def check(self, laying, rows, way):
        before = kept(laying)
        handed = list(way)
        told = turned(laying, handed)
        self.assertIsNot(told, laying)
        self.assertIs(told.floor, laying.floor)
        self.assertEqual(handed, way)
        self.assertEqual(kept(laying), before)
        stay = [slab for slab in laying.slabs() if slab[0] not in way and slab[1] not in way]
        new = [tuple(sorted(way[at:at + 2])) for at in range(0, len(way) - 1, 2)]
        self.assertEqual(told.slabs(), sorted(stay + new))
        self.assertEqual(told.over, {one: other for slab in stay + new for one, other in (slab, slab[::-1])})
        bare = set(laying.bare()) - {way[0], way[-1]}
        self.assertEqual(told.bare(), sorted(bare | {way[-1]} if len(way) % 2 else bare))

    def test_told_ones(self):
        laying = laying_of(["......"], [(1, 2), (3, 4)])
        self.assertEqual(turned(laying, [0, 1, 2, 3, 4, 5]).slabs(), [(0, 1), (2, 3), (4, 5)])
        self.assertEqual(turned(laying, [5, 4, 3, 2, 1, 0]).slabs(), [(0, 1), (2, 3), (4, 5)])
        self.assertEqual(turned(laying, [0, 1, 2]).slabs(), [(0, 1), (3, 4)])
        self.assertEqual(turned(laying, [0, 1, 2, 3, 4]).slabs(), [(0, 1), (2, 3)])
        self.assertEqual(turned(laying, [5, 4, 3]).slabs(), [(1, 2), (4, 5)])

    def test_two_bare_cells(self):
        laying = Laying(Floor(TWO_ROWS))
        self.assertEqual(turned(laying, [6, 2]).slabs(), [(2, 6)])
        self.assertEqual(turned(laying, [2, 6]).over, {2: 6, 6: 2})

    def test_other_slabs_stay(self):
        laying = laying_of(TWO_ROWS, [(1, 2), (4, 5), (6, 7)])
        self.assertEqual(turned(laying, [0, 1, 2]).slabs(), [(0, 1), (4, 5), (6, 7)])
        self.assertEqual(turned(laying, [0, 1, 2, 3]).slabs(), [(0, 1), (2, 3), (4, 5), (6, 7)])

    def test_a_way_of_one_cell(self):
        laying = laying_of(TWO_ROWS, [(1, 2), (4, 5)])
        for cell in laying.bare():
            self.check(laying, TWO_ROWS, [cell])
            told = turned(laying, [cell])
            self.assertEqual(told.slabs(), laying.slabs())
            self.assertIsNot(told.over, laying.over)

    def test_a_way_of_one_cell_on_a_floor_of_one(self):
        for sign in ".-|":
            laying = Laying(Floor([sign]))
            told = turned(laying, [0])
            self.assertIsNot(told, laying)
            self.assertIs(told.floor, laying.floor)
            self.assertEqual((told.slabs(), told.bare()), ([], [0]))

    def test_they_go_their_own_ways(self):
        for way in ([0], [0, 1, 2], [0, 1, 2, 3]):
            laying = laying_of(TWO_ROWS, [(1, 2), (4, 5)])
            before = kept(laying)
            told = turned(laying, way)
            told.put(6, 7)
            told.lift(4)
            self.assertEqual(kept(laying), before)
            slabs = told.slabs()
            laying.lift(1)
            laying.lift(5)
            self.assertEqual(told.slabs(), slabs)

    def test_an_even_way_leaves_two_bare_cells_less_and_an_odd_one_as_many(self):
        for rows in SMALL[:20]:
            for laying in all_layings(rows):
                for way in all_ways(laying):
                    less = 0 if len(way) % 2 else 2
                    self.assertEqual(len(turned(laying, way).bare()), len(laying.bare()) - less)

    def test_each_way_of_each_laying_of_each_small_floor(self):
        for rows in TINY + SMALL:
            if sum(len(row) for row in rows) < 11:
                with self.subTest(rows=rows):
                    for laying in all_layings(rows):
                        for way in all_ways(laying):
                            self.check(laying, rows, way)

    def test_each_reached_way_on_great_floors(self):
        for rows in GREAT:
            with self.subTest(rows=rows):
                laying = greedy(rows)
                for shade in (0, 1):
                    found = reached(laying, shade)
                    for cell in list(found)[::7]:
                        way = way_to(found, cell)
                        if len(way) % 2 or cell not in laying.over:
                            self.check(laying, rows, way)


class NothingElseChanges(unittest.TestCase):
    def test_what_is_handed_in_stays(self):
        for rows in FLOORS:
            laying = greedy(rows)
            before = kept(laying)
            for shade in (0, 1):
                found = reached(laying, shade)
                copy = list(found.items())
                for cell in found:
                    way_to(found, cell)
                self.assertEqual(list(found.items()), copy)
            self.assertEqual(kept(laying), before)

    def test_what_is_told_is_new_each_time(self):
        laying = laying_of(TWO_ROWS, [(1, 2), (4, 5)])
        before = kept(laying)
        found = reached(laying, 0)
        first = dict(found)
        self.assertIsNot(reached(laying, 0), found)
        found.clear()
        found[0] = 9
        self.assertEqual(reached(laying, 0), first)
        self.assertEqual(kept(laying), before)

    def test_a_way_is_a_list_of_its_own(self):
        found = reached(laying_of(["......"], [(1, 2), (3, 4)]), 0)
        first = dict(found)
        for cell in (0, 3):
            way = way_to(found, cell)
            self.assertIsNot(way_to(found, cell), way)
            way.clear()
            self.assertEqual(found, first)
            self.assertEqual(way_to(found, cell), list(range(cell + 1)))

    def test_what_was_told_earlier_stays(self):
        laying = laying_of(["...."], [(1, 2)])
        found = reached(laying, 0)
        way = way_to(found, 2)
        laying.lift(1)
        laying.put(0, 1)
        self.assertEqual(found, {0: None, 1: 0, 2: 1, 3: 2})
        self.assertEqual(way, [0, 1, 2])


if __name__ == "__main__":
    unittest.main()
