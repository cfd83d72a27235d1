"""Drawings: points 15 to 17, and the interface of slabfloor/drawing.py."""

import itertools
import unittest

from slabfloor.drawing import drawn, quarter, quarter_place, read
from slabfloor.errors import FloorError, NoDrawing
from slabfloor.fewest import laid
from slabfloor.floor import Floor
from slabfloor.laying import Laying

from helpers import (
    ALL_SIGNS_12, ENDLESS, FLOORS, GREAT, HUGE, ORDINARY, SMALL, TINY, all_layings, greedy, kept, laying_of, lie_of,
    numbers_around, parameters, put_on, refusal,
)

RING = ["...", ".#.", "..."]


def told_drawing(rows, slabs):
    """What point 15 tells of slabs on a floor."""
    lie = lie_of(rows)
    signs = ["#" if sign == "#" else "o" for _, _, sign in lie.values()]
    for one, other in slabs:
        in_a_row = lie[one][0] == lie[other][0]
        signs[one], signs[other] = "<>" if in_a_row else "^v"
    ends = [sum(len(row) for row in rows[:at]) for at in range(len(rows) + 1)]
    return ["".join(signs[start:end]) for start, end in zip(ends, ends[1:])]


class Interface(unittest.TestCase):
    def test_names_and_parameters(self):
        self.assertEqual(parameters(drawn), ["laying"])
        self.assertEqual(parameters(read), ["floor", "rows"])
        self.assertEqual(parameters(quarter), ["floor"])
        self.assertEqual(parameters(quarter_place), ["floor", "place"])

    def test_parameters_by_name(self):
        floor = Floor(["..#"])
        self.assertEqual(drawn(laying=read(floor=floor, rows=["<>#"])), ["<>#"])
        self.assertEqual(quarter(floor=floor).rows, [".", ".", "#"])
        self.assertEqual(quarter_place(floor=floor, place=2), 2)

    def test_defined_in_this_file(self):
        for deed in (drawn, read, quarter, quarter_place):
            self.assertEqual(deed.__module__, "slabfloor.drawing")

    def test_kinds_of_values(self):
        floor = Floor(["..#"])
        told = drawn(Laying(floor))
        self.assertIs(type(told), list)
        self.assertIs(type(told[0]), str)
        self.assertIs(type(read(floor, ["<>#"])), Laying)
        self.assertIs(type(quarter(floor)), Floor)
        self.assertIs(type(quarter_place(floor, 1)), int)


class Drawn(unittest.TestCase):
    def test_told_ones(self):
        for rows, slabs, told in (
            (RING, [], ["ooo", "o#o", "ooo"]),
            (RING, [(0, 1), (3, 6), (5, 8)], ["<>o", "^#^", "vov"]),
            (RING, [(8, 7), (2, 1), (3, 0)], ["^<>", "v#o", "o<>"]),
            (["...."], [(1, 2)], ["o<>o"]),
            (["...."], [(0, 1), (2, 3)], ["<><>"]),
            ([".", ".", ".", "."], [(1, 2)], ["o", "^", "v", "o"]),
            (["|", "|", "#"], [(0, 1)], ["^", "v", "#"]),
            (["--|", "-#|"], [(1, 0), (5, 2)], ["<>^", "o#v"]),
        ):
            with self.subTest(rows=rows, slabs=slabs):
                self.assertEqual(drawn(laying_of(rows, slabs)), told)

    def test_floors_without_cells(self):
        for rows, told in (
            ([], []),
            ([""], [""]),
            (["", ""], ["", ""]),
            ([""] * 12, [""] * 12),
            (["#"], ["#"]),
            (["#" * 12] * 12, ["#" * 12] * 12),
        ):
            self.assertEqual(drawn(Laying(Floor(rows))), told)

    def test_one_cell(self):
        for sign in ".-|":
            self.assertEqual(drawn(Laying(Floor([sign]))), ["o"])

    def test_one_column_is_not_taken_for_a_row(self):
        self.assertEqual(drawn(laying_of(["."] * 12, [(at, at + 1) for at in range(0, 12, 2)])), ["^", "v"] * 6)

    def test_twelve_by_twelve(self):
        rows = ["." * 12] * 12
        self.assertEqual(drawn(Laying(Floor(rows))), ["o" * 12] * 12)
        across = [(at, at + 1) for at in range(0, 144, 2)]
        self.assertEqual(drawn(laying_of(rows, across)), ["<>" * 6] * 12)
        down = [(24 * pair + column, 24 * pair + column + 12) for pair in range(6) for column in range(12)]
        self.assertEqual(drawn(laying_of(rows, down)), ["^" * 12, "v" * 12] * 6)

    def test_each_laying_of_each_small_floor(self):
        for rows in TINY + SMALL:
            with self.subTest(rows=rows):
                for laying in all_layings(rows):
                    self.assertEqual(drawn(laying), told_drawing(rows, laying.slabs()))

    def test_great_floors(self):
        for rows in FLOORS + GREAT:
            for laying in (Laying(Floor(rows)), greedy(rows), laid(Floor(rows))):
                self.assertEqual(drawn(laying), told_drawing(rows, laying.slabs()))

    def test_changing_the_rows_changes_no_drawing(self):
        laying = laying_of(RING, [(0, 1)])
        laying.floor.rows.clear()
        self.assertEqual(drawn(laying), ["<>o", "o#o", "ooo"])


class Read(unittest.TestCase):
    def check(self, laying):
        rows = drawn(laying)
        told = read(laying.floor, rows)
        self.assertIsNot(told, laying)
        self.assertIs(told.floor, laying.floor)
        self.assertEqual(told.over, laying.over)
        self.assertEqual(told.slabs(), laying.slabs())
        self.assertEqual(told.bare(), laying.bare())
        self.assertEqual(drawn(told), rows)

    def test_told_ones(self):
        floor = Floor(RING)
        self.assertEqual(read(floor, ["<>o", "^#^", "vov"]).slabs(), [(0, 1), (3, 6), (5, 8)])
        self.assertEqual(read(floor, ["ooo", "o#o", "ooo"]).slabs(), [])
        self.assertEqual(read(Floor([".", "."]), ["^", "v"]).slabs(), [(0, 1)])

    def test_floors_without_cells(self):
        for rows, told in (([], []), ([""], [""]), ([""] * 12, [""] * 12), (["##"], ["##"])):
            floor = Floor(rows)
            laying = read(floor, told)
            self.assertIs(laying.floor, floor)
            self.assertEqual((laying.over, laying.slabs(), laying.bare()), ({}, [], []))

    def test_each_laying_of_each_small_floor(self):
        for rows in TINY + SMALL:
            with self.subTest(rows=rows):
                for laying in all_layings(rows):
                    self.check(laying)

    def test_great_floors(self):
        for rows in FLOORS + GREAT:
            for laying in (Laying(Floor(rows)), greedy(rows), laid(Floor(rows))):
                self.check(laying)

    def test_changing_the_rows_changes_no_reading(self):
        floor = Floor(RING)
        floor.rows.clear()
        self.assertEqual(read(floor, ["<>o", "^#^", "vov"]).slabs(), [(0, 1), (3, 6), (5, 8)])

    def test_the_laying_that_was_read_goes_its_own_way(self):
        floor = Floor(RING)
        first = read(floor, ["<>o", "o#o", "ooo"])
        second = read(floor, ["<>o", "o#o", "ooo"])
        first.lift(0)
        first.put(1, 2)
        self.assertEqual(second.slabs(), [(0, 1)])


class NoDrawings(unittest.TestCase):
    def check(self, floor, *rows):
        rows = list(rows)
        handed = list(rows)
        before = kept(floor)
        with self.subTest(floor=floor.rows, rows=rows):
            self.assertIs(refusal(read, floor, handed), NoDrawing)
            for caught in (FloorError, ValueError):
                with self.assertRaises(caught):
                    read(floor, handed)
            self.assertEqual(handed, rows)
            self.assertEqual(kept(floor), before)

    def test_other_numbers_of_rows(self):
        floor = Floor(["..", ".."])
        self.check(floor)
        self.check(floor, "oo")
        self.check(floor, "<>")
        self.check(floor, "oo", "oo", "oo")
        self.check(floor, "oo", "oo", "")
        self.check(floor, "", "oo", "oo")
        self.check(floor, "oooo")
        self.check(Floor([]), "")
        self.check(Floor([]), "o")
        self.check(Floor([""]))
        self.check(Floor([""]), "", "")
        self.check(Floor([""] * 12), *[""] * 11)
        self.check(Floor([""] * 12), *[""] * 13)
        self.check(Floor(["." * 12] * 12), *["o" * 12] * 11)
        self.check(Floor(["." * 12] * 12), *["o" * 12] * 13)
        self.check(Floor(["." * 12] * 12), *["o" * 12] * 3000)

    def test_other_numbers_of_signs(self):
        floor = Floor(["..", ".."])
        self.check(floor, "o", "oo")
        self.check(floor, "oo", "o")
        self.check(floor, "o", "o")
        self.check(floor, "ooo", "oo")
        self.check(floor, "oo", "oo#")
        self.check(floor, "oo ", "oo")
        self.check(floor, "oo", "oo\n")
        self.check(floor, "oo", "")
        self.check(floor, "", "")
        self.check(floor, "<>o", "<>o")
        self.check(floor, "o", "ooo")
        self.check(floor, "^v", "oooo")
        self.check(Floor([""]), "o")
        self.check(Floor([""]), "#")
        self.check(Floor(["", ""]), "", "^")
        self.check(Floor(["", ""]), "<>", "<>")
        self.check(Floor(["." * 12] * 12), *["o" * 12] * 11, "o" * 13)
        self.check(Floor(["." * 12] * 12), *["o" * 12] * 11, "o" * 11)
        self.check(Floor(["."]), "<" * 3000)

    def test_rows_and_columns_exchanged(self):
        self.check(Floor(["...", "..."]), "oo", "oo", "oo")
        self.check(Floor(["..."]), "o", "o", "o")

    def test_other_signs(self):
        for sign in (".", "-", "|", "x", "O", "0", "V", " ", "\n", "\0", "A", "/", "+", "\u2014", "\u25cb"):
            self.check(Floor(["..", ".."]), sign + "o", "oo")
            self.check(Floor(["..", ".."]), "oo", "o" + sign)
            self.check(Floor(["..", ".."]), "<>", "o" + sign)
            self.check(Floor([sign if sign in ".-|" else "."]), sign)
            self.check(Floor(["#"]), sign)
        self.check(Floor(ORDINARY), *ORDINARY)

    def test_pillars(self):
        floor = Floor(RING)
        self.check(floor, "ooo", "ooo", "ooo")
        self.check(floor, "#oo", "o#o", "ooo")
        self.check(floor, "ooo", "o#o", "oo#")
        self.check(floor, "ooo", "##o", "ooo")
        self.check(floor, "ooo", "oo#", "ooo")
        self.check(floor, "ooo", "<>o", "ooo")
        self.check(floor, "ooo", "o<>", "ooo")
        self.check(floor, "o^o", "ovo", "ooo")
        self.check(floor, "ooo", "o^o", "ovo")
        self.check(Floor(["#"]), "o")
        self.check(Floor(["."]), "#")
        self.check(Floor(["##"]), "<>")
        self.check(Floor([".."]), "##")

    def test_half_of_a_slab(self):
        floor = Floor(["...", "...", "..."])
        for half in "<>^v":
            for place in range(9):
                signs = ["o"] * 9
                signs[place] = half
                self.check(floor, *("".join(signs[start:start + 3]) for start in (0, 3, 6)))
            self.check(Floor(["."]), half)
        self.check(floor, "<<>", "ooo", "ooo")
        self.check(floor, "<>>", "ooo", "ooo")
        self.check(floor, "><o", "ooo", "ooo")
        self.check(floor, "<o>", "ooo", "ooo")
        self.check(floor, "<vo", "ooo", "ooo")
        self.check(floor, "^>o", "ooo", "ooo")
        self.check(floor, "^oo", "^oo", "voo")
        self.check(floor, "^oo", "voo", "voo")
        self.check(floor, "voo", "^oo", "ooo")
        self.check(floor, "^oo", ">oo", "ooo")
        self.check(floor, "<oo", "voo", "ooo")
        self.check(floor, "^oo", "<>o", "voo")
        self.check(floor, "<^>", "ovo", "ooo")

    def test_a_slab_over_the_end_of_a_row(self):
        self.check(Floor(["..", ".."]), "o<", ">o")
        self.check(Floor(["..", ".."]), ">o", "o<")
        self.check(Floor(["...", "..."]), "<><", "><>")
        self.check(Floor(["..", ".."]), "vo", "^o")

    def test_the_other_way_about_on_one_row_and_one_column(self):
        self.check(Floor([".", "."]), "<", ">")
        self.check(Floor([".", "."]), "v", "^")
        self.check(Floor([".."]), "^v")
        self.check(Floor([".."]), "><")

    def test_a_slab_that_may_not_lie_there(self):
        for signs in itertools.product(".-|", repeat=2):
            if "|" in signs:
                self.check(Floor(["".join(signs)]), "<>")
            if "-" in signs:
                self.check(Floor(list(signs)), "^", "v")
        self.check(Floor(["..", "-."]), "^o", "vo")
        self.check(Floor(["..", ".|"]), "oo", "<>")

    def test_all_rows_of_signs_on_tiny_floors(self):
        for rows in TINY:
            floor = Floor(rows)
            drawings = {}
            for laying in all_layings(rows):
                drawings[tuple(drawn(laying))] = laying.slabs()
            for signs in itertools.product("#o<>^v.", repeat=len(rows) * len(rows[0])):
                wide = len(rows[0])
                told = ["".join(signs[start:start + wide]) for start in range(0, len(signs), wide)]
                if tuple(told) in drawings:
                    self.assertEqual(read(floor, told).slabs(), drawings[tuple(told)])
                else:
                    self.assertIs(refusal(read, floor, told), NoDrawing, (rows, told))

    def test_one_sign_changed_draws_no_laying(self):
        # A sign alone that is changed always leaves a half behind, or a wrong pillar.
        for rows in (RING, ORDINARY, ["....", "....", "...."], ["..|", ".#.", "-.."]):
            floor = Floor(rows)
            for laying in itertools.islice(all_layings(rows), 0, None, 9):
                told = drawn(laying)
                for row, text in enumerate(told):
                    for column, sign in enumerate(text):
                        for other in "#o<>^v.x":
                            if other != sign:
                                changed = list(told)
                                changed[row] = text[:column] + other + text[column + 1:]
                                self.assertIs(refusal(read, floor, changed), NoDrawing, changed)

    def test_no_laying_of_this_floor(self):
        told = drawn(greedy(["...", "...", "..."]))
        self.check(Floor(RING), *told)
        self.check(Floor(["...", "...", "--#"]), *told)


class Quarter(unittest.TestCase):
    def test_told_ones(self):
        for rows, told in (
            ([], []),
            ([""], []),
            (["", ""], []),
            ([""] * 12, []),
            (["."], ["."]),
            (["-"], ["|"]),
            (["|"], ["-"]),
            (["#"], ["#"]),
            ([".-|#"], [".", "|", "-", "#"]),
            ([".", "-", "|", "#"], ["#-|."]),
            (["..#", "-|."], ["|.", "-.", ".#"]),
            (["##", "##", "##"], ["###", "###"]),
            (ORDINARY, ["|#..", ".--.", ".-||", "...#"]),
            (["." * 12] * 12, ["." * 12] * 12),
            (["-" * 12] * 12, ["|" * 12] * 12),
            (["." * 12], ["."] * 12),
            (["|"] * 12, ["-" * 12]),
        ):
            with self.subTest(rows=rows):
                turned = quarter(Floor(rows))
                self.assertEqual(turned.rows, told)
                self.assertEqual(turned.high, len(told))
                self.assertEqual(turned.wide, len(told[0]) if told else 0)

    def test_columns_read_from_the_bottom_to_the_top(self):
        for rows in FLOORS + TINY + SMALL + GREAT:
            wide = len(rows[0]) if rows else 0
            columns = ["".join(row[column] for row in rows)[::-1] for column in range(wide)]
            exchanged = [text.replace("-", "!").replace("|", "-").replace("!", "|") for text in columns]
            self.assertEqual(quarter(Floor(rows)).rows, exchanged)

    def test_four_quarters(self):
        for rows in FLOORS + SMALL + GREAT:
            floor = Floor(rows)
            for _ in range(4):
                floor = quarter(floor)
            self.assertEqual(floor.rows, rows if rows and rows[0] else [])

    def test_another_floor_also_where_nothing_changes(self):
        for rows in ([], ["."], ["#"], ["..", ".."]):
            floor = Floor(rows)
            turned = quarter(floor)
            self.assertIsNot(turned, floor)
            self.assertIsNot(turned.rows, floor.rows)
            turned.rows.append("x")
            self.assertEqual(floor.rows, rows)
            self.assertEqual(quarter(floor).rows, rows)

    def test_changing_the_rows_changes_no_turning(self):
        floor = Floor(["..#", "-|."])
        floor.rows.clear()
        self.assertEqual(quarter(floor).rows, ["|.", "-.", ".#"])

    def test_the_floor_stays(self):
        for rows in FLOORS:
            floor = Floor(rows)
            before = kept(floor)
            quarter(floor)
            for number in numbers_around(rows):
                quarter_place(floor, number)
            self.assertEqual(kept(floor), before)


class QuarterPlace(unittest.TestCase):
    def test_told_ones(self):
        # 0 1 2      3 0
        # 3 4 5      4 1
        #            5 2
        floor = Floor(["..#", "-|."])
        self.assertEqual([quarter_place(floor, place) for place in range(6)], [1, 3, 5, 0, 2, 4])
        floor = Floor(["...."])
        self.assertEqual([quarter_place(floor, place) for place in range(4)], [0, 1, 2, 3])
        floor = Floor([".", ".", "."])
        self.assertEqual([quarter_place(floor, place) for place in range(3)], [2, 1, 0])
        self.assertEqual(quarter_place(Floor(["#"]), 0), 0)
        floor = Floor(["." * 12] * 12)
        self.assertEqual([quarter_place(floor, place) for place in (0, 11, 132, 143, 12)], [11, 143, 0, 132, 10])

    def test_each_place_keeps_its_sign(self):
        for rows in FLOORS + TINY + SMALL + GREAT:
            floor = Floor(rows)
            there = lie_of(quarter(floor).rows)
            exchanged = {".": ".", "#": "#", "-": "|", "|": "-"}
            places = list(lie_of(rows))
            self.assertEqual(sorted(quarter_place(floor, place) for place in places), places)
            for place, (row, column, sign) in lie_of(rows).items():
                told = (column, len(rows) - 1 - row, exchanged[sign])
                self.assertEqual(there[quarter_place(floor, place)], told)

    def test_cells_beside_one_another_stay_so(self):
        for rows in SMALL:
            floor = Floor(rows)
            turned = quarter(floor)
            for one in lie_of(rows):
                for other in lie_of(rows):
                    there = quarter_place(floor, one), quarter_place(floor, other)
                    self.assertIs(turned.may(*there), floor.may(one, other))

    def test_layings_can_be_turned_too(self):
        for rows in SMALL + [ALL_SIGNS_12]:
            laying = laid(Floor(rows))
            floor = laying.floor
            turned = quarter(floor)
            there = [(quarter_place(floor, one), quarter_place(floor, other)) for one, other in laying.slabs()]
            self.assertEqual(len(put_on(turned, there).bare()), len(laying.bare()))
            self.assertEqual(len(laid(turned).bare()), len(laying.bare()))

    def test_numbers_beyond_raise_nothing(self):
        for rows in FLOORS:
            for number in (-1, 144, HUGE, -HUGE, ENDLESS, -ENDLESS):
                self.assertIs(type(quarter_place(Floor(rows), number)), int)


class NothingElseChanges(unittest.TestCase):
    def test_what_is_handed_in_stays(self):
        for rows in FLOORS:
            laying = greedy(rows)
            before = kept(laying)
            told = drawn(laying)
            handed = list(told)
            read(laying.floor, handed)
            self.assertEqual(handed, told)
            self.assertEqual(kept(laying), before)

    def test_drawings_are_new_each_time(self):
        laying = laying_of(RING, [(0, 1)])
        before = kept(laying)
        told = drawn(laying)
        self.assertIsNot(drawn(laying), told)
        told.clear()
        told.append("x")
        self.assertEqual(drawn(laying), ["<>o", "o#o", "ooo"])
        self.assertEqual(kept(laying), before)

    def test_changing_the_rows_that_were_read_changes_no_laying(self):
        floor = Floor(RING)
        rows = ["<>o", "o#o", "ooo"]
        laying = read(floor, rows)
        rows.clear()
        self.assertEqual(laying.slabs(), [(0, 1)])
        self.assertEqual(drawn(laying), ["<>o", "o#o", "ooo"])


if __name__ == "__main__":
    unittest.main()
