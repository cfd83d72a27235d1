"""The whole program: point 1, and that each call answers within a moment on the greatest floors."""

import ast
import time
import unittest
from pathlib import Path

from slabfloor.drawing import drawn, quarter, quarter_place, read
from slabfloor.errors import FloorError
from slabfloor.fewest import better, laid, painted, sparing
from slabfloor.floor import Floor
from slabfloor.laying import Laying
from slabfloor.ways import reached, turned, way_to

from helpers import FLOORS, GREAT, greedy, kept

# Far more than a call needs, and far less than going through all layings takes.
MOMENT = 2.0

IMPORTED = {"__future__", "heapq", "math", "itertools", "collections"}


def calls_on(laying):
    """Each call that is handed a floor or a laying and is not to change it, as a name and a deed."""
    floor = laying.floor
    cells = floor.cells()
    rows = drawn(laying)
    calls = [
        ("copied", laying.copied),
        ("bare", laying.bare),
        ("slabs", laying.slabs),
        ("cells", floor.cells),
        ("better", lambda: better(laying)),
        ("laid", lambda: laid(floor)),
        ("drawn", lambda: drawn(laying)),
        ("read", lambda: read(floor, rows)),
        ("quarter", lambda: quarter(floor)),
        ("quarter_place", lambda: quarter_place(floor, 5)),
        ("sparing of no cell", lambda: sparing(floor, -1)),
        ("read of no drawing", lambda: read(floor, rows + ["o"])),
        ("beside of no cell", lambda: floor.beside(-1)),
        ("put of no cell", lambda: laying.put(-1, -1)),
        ("lift of no cell", lambda: laying.lift(-1)),
    ]
    for shade in (0, 1):
        found = reached(laying, shade)
        calls.append(("reached", lambda shade=shade: reached(laying, shade)))
        calls.append(("painted", lambda shade=shade: painted(laying, shade)))
        for cell in list(found)[:3]:
            calls.append(("way_to", lambda found=found, cell=cell: way_to(found, cell)))
            way = way_to(found, cell)
            if len(way) % 2 or cell not in laying.over:
                calls.append(("turned", lambda way=way: turned(laying, way)))
    for cell in cells[:3] + cells[-3:]:
        calls.append(("sparing", lambda cell=cell: sparing(floor, cell)))
        calls.append(("beside", lambda cell=cell: floor.beside(cell)))
    return calls


def answer(deed):
    try:
        return deed()
    except FloorError as e:
        return type(e)


def told_by(answer_told):
    """An answer as plain values, so that two of them can be compared."""
    if isinstance(answer_told, Laying):
        return "laying", dict(answer_told.over)
    if isinstance(answer_told, Floor):
        return "floor", list(answer_told.rows)
    if isinstance(answer_told, tuple):
        return tuple(told_by(part) for part in answer_told)
    if isinstance(answer_told, list):
        return "list", list(answer_told)
    if isinstance(answer_told, dict):
        return "dict", dict(answer_told)
    return answer_told


def spoil(answer_told):
    """Change what a call told, in every way that it lets."""
    if isinstance(answer_told, tuple):
        for part in answer_told:
            spoil(part)
    if isinstance(answer_told, Laying):
        for one, _ in answer_told.slabs():
            answer_told.lift(one)
    if isinstance(answer_told, Floor):
        answer_told.rows.append("spoilt")
    if isinstance(answer_told, list):
        answer_told.reverse()
        answer_told.append(10 ** 6)
    if isinstance(answer_told, dict):
        answer_told.clear()
        answer_told[10 ** 6] = 10 ** 6


class NothingElseChanges(unittest.TestCase):
    def layings(self):
        for rows in FLOORS + GREAT[-3:]:
            yield Laying(Floor(rows))
            yield greedy(rows)
            yield laid(Floor(rows))

    def test_no_call_changes_what_is_handed_in(self):
        for laying in self.layings():
            before = kept(laying)
            floor = laying.floor
            for name, deed in calls_on(laying):
                with self.subTest(rows=floor.rows, call=name):
                    answer(deed)
                    self.assertEqual(kept(laying), before)
                    self.assertIs(laying.floor, floor)

    def test_whatever_is_done_to_an_answer_changes_nothing_else(self):
        for laying in self.layings():
            before = kept(laying)
            for name, deed in calls_on(laying):
                with self.subTest(rows=laying.floor.rows, call=name):
                    first = answer(deed)
                    told = told_by(first)
                    spoil(first)
                    self.assertEqual(kept(laying), before)
                    self.assertEqual(told_by(answer(deed)), told)

    def test_the_same_answer_each_time(self):
        for rows in FLOORS:
            for name, deed in calls_on(greedy(rows)):
                self.assertEqual(told_by(answer(deed)), told_by(answer(deed)), name)


class Moments(unittest.TestCase):
    def test_each_call_on_the_greatest_floors(self):
        for rows in GREAT:
            for laying in (Laying(Floor(rows)), greedy(rows), laid(Floor(rows))):
                for name, deed in calls_on(laying):
                    with self.subTest(rows=rows, call=name):
                        start = time.perf_counter()
                        answer(deed)
                        self.assertLess(time.perf_counter() - start, MOMENT)


class Imports(unittest.TestCase):
    def test_no_clock_no_chance_no_files(self):
        for file in sorted(Path(__file__).parent.parent.joinpath("slabfloor").glob("*.py")):
            for node in ast.walk(ast.parse(file.read_text(encoding="utf-8"))):
                self.assertNotIsInstance(node, ast.Import, file.name)
                if isinstance(node, ast.ImportFrom):
                    self.assertIn(node.module.split(".")[0], IMPORTED | {"slabfloor"})
                if isinstance(node, ast.Name):
                    self.assertNotIn(node.id, ("open", "input", "print", "eval", "exec"))


if __name__ == "__main__":
    unittest.main()
