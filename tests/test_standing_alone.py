"""Point 1: nothing outside is used, nothing handed in is changed, and nothing told hangs on anything."""

import os
import pathlib
import subprocess
import sys
import unittest

from tests.shapes import LAID, SHORT
from turnfloor.errors import BadFloor, BadLaying, NoCell
from turnfloor.floors import Floor
from turnfloor.layings import laid_or_short, told_laying

TOP = pathlib.Path(__file__).resolve().parent.parent

ASK_ALL = """
import sys
from turnfloor.floors import Floor, is_dark
from turnfloor.layings import laid_or_short, told_laying
from turnfloor.errors import FloorError
import tests.shapes as shapes
floors = shapes.LAID + shapes.SHORT + shapes.grown_floors(20, 2)
outside = []
sys.addaudithook(lambda event, told: outside.append(event))
for rows in floors:
    floor = Floor(rows)
    told = [floor.rows(), floor.cells(), floor.corners(), floor.inner(), [floor.beside(cell) for cell in floor.cells()]]
    found = laid_or_short(floor)
    if found[0] == "laid":
        told.append(told_laying(floor, found[1][::-1]))
    print(told, found) if not outside else sys.exit(f"something outside was used: {outside}")
    outside.clear()
"""


def asked_in_a_fresh_run(seed):
    surroundings = {**os.environ, "PYTHONHASHSEED": seed, "PYTHONPATH": str(TOP), "PYTHONDONTWRITEBYTECODE": "1"}
    done = subprocess.run([sys.executable, "-c", ASK_ALL], cwd=TOP, env=surroundings, capture_output=True, text=True)
    return done.returncode, done.stderr, done.stdout


def all_told(floor):
    """All lists that a floor tells, by new asking."""
    told = [floor.rows(), floor.cells(), floor.corners(), floor.inner()]
    told += [floor.beside(cell) for cell in floor.cells()]
    found = laid_or_short(floor)
    told.append(found[1])
    if found[0] == "laid":
        told.append(told_laying(floor, list(found[1])))
    return told


def copies(lists):
    return [list(one) for one in lists]


class OutsideTest(unittest.TestCase):
    def test_every_run_tells_the_same_and_uses_nothing_outside(self):
        first = asked_in_a_fresh_run("1")
        self.assertEqual(first[:2], (0, ""))
        self.assertEqual(len(first[2].splitlines()), len(LAID) + len(SHORT) + 20)
        self.assertEqual(asked_in_a_fresh_run("2"), first)


class HandedInTest(unittest.TestCase):
    def test_rows_are_not_changed(self):
        for rows in LAID + SHORT:
            handed = list(rows)
            all_told(Floor(handed))
            self.assertEqual(handed, rows)

    def test_refused_rows_are_not_changed(self):
        for rows in [["#.#"], ["###", "#.#", "###"], ["#", "##"], [".", "."], ["##", None]]:
            handed = list(rows)
            with self.assertRaises(ValueError):
                Floor(handed)
            self.assertEqual(handed, rows)

    def test_rows_may_be_changed_later(self):
        for spoil in [list.clear, list.reverse, lambda rows: rows.append("###"),
                      lambda rows: rows.__setitem__(0, "#.#")]:
            rows = ["###", "##.", ".#."]
            floor = Floor(rows)
            before = copies(all_told(floor))
            spoil(rows)
            self.assertEqual(all_told(floor), before)
            self.assertEqual(floor.rows(), ["###", "##.", ".#."])

    def test_rows_changed_before_anything_is_asked(self):
        rows = ["###", "##.", ".#."]
        floor = Floor(rows)
        rows.clear()
        self.assertEqual(all_told(floor), all_told(Floor(["###", "##.", ".#."])))
        self.assertIs(floor.has((1, 2)), True)

    def test_pieces_are_not_changed(self):
        handed = [((1, 1), (1, 0)), ((0, 1), (0, 0))]
        told_laying(Floor(["##", "##"]), handed)
        self.assertEqual(handed, [((1, 1), (1, 0)), ((0, 1), (0, 0))])

    def test_refused_pieces_are_not_changed(self):
        for pieces in [[], [((1, 1), (1, 0))], [((1, 1), (1, 0))] * 2, [((1, 1), (0, 1)), None, ((0, 0), (1, 0))],
                       [((1, 1), (1, 0)), ((0, 1), (0, 0)), ((1, 1), (1, 0))]]:
            handed = list(pieces)
            with self.assertRaises(BadLaying):
                told_laying(Floor(["##", "##"]), handed)
            self.assertEqual(handed, pieces)

    def test_pieces_may_be_changed_later(self):
        floor = Floor(["##", "##"])
        handed = [((0, 0), (1, 0)), ((0, 1), (1, 1))]
        told = told_laying(floor, handed)
        handed.clear()
        self.assertEqual(told, [((0, 0), (1, 0)), ((0, 1), (1, 1))])
        with self.assertRaises(BadLaying):
            told_laying(floor, handed)
        handed.extend([((0, 0), (0, 1)), ((1, 0), (1, 1))])
        self.assertEqual(told_laying(floor, handed), [((0, 0), (0, 1)), ((1, 0), (1, 1))])
        self.assertEqual(told, [((0, 0), (1, 0)), ((0, 1), (1, 1))])


class ToldTest(unittest.TestCase):
    def test_what_was_told_may_be_emptied(self):
        for rows in LAID + SHORT:
            floor = Floor(rows)
            before = copies(all_told(floor))
            for told in all_told(floor):
                told.clear()
            self.assertEqual(all_told(floor), before)

    def test_what_was_told_may_be_changed(self):
        for rows in LAID + SHORT:
            floor = Floor(rows)
            before = copies(all_told(floor))
            for told in all_told(floor):
                told.append((9, 9))
                told.insert(0, "######")
                told.reverse()
            self.assertEqual(all_told(floor), before)
            self.assertIs(floor.has((9, 9)), False)

    def test_cells_are_had_after_the_told_ones_were_emptied(self):
        floor = Floor(["###", "##.", ".#."])
        for told in all_told(floor):
            told.clear()
        self.assertIs(floor.has((0, 0)), True)
        self.assertEqual(floor.beside((1, 1)), [(1, 0), (0, 1), (1, 2)])

    def test_what_was_told_is_not_changed_by_later_asking(self):
        for rows in LAID + SHORT:
            floor = Floor(rows)
            told = all_told(floor)
            before = copies(told)
            all_told(floor)
            for other in [["######"] * 6, ["#"], ["###"], ["##", "##"]]:
                all_told(Floor(other))
            for refused in [lambda: floor.beside(None), lambda: told_laying(floor, None), lambda: Floor(None)]:
                with self.assertRaises((NoCell, BadLaying, BadFloor)):
                    refused()
            self.assertEqual(told, before)
            self.assertEqual(all_told(floor), before)

    def test_each_told_list_is_a_new_one(self):
        for rows in [["#"], ["##", "##"], ["###", "##.", ".#."]]:
            floor = Floor(rows)
            lists = all_told(floor) + all_told(floor)
            self.assertEqual(len({id(one) for one in lists}), len(lists))

    def test_floors_do_not_hang_on_each_other(self):
        one = Floor(["##", "##"])
        other = Floor(["###", ".#."])
        self.assertEqual(one.cells(), [(0, 0), (1, 0), (0, 1), (1, 1)])
        self.assertEqual(other.cells(), [(0, 0), (1, 0), (2, 0), (1, 1)])
        self.assertIs(one.has((2, 0)), False)
        self.assertIs(other.has((0, 1)), False)
        self.assertEqual(one.beside((0, 0)), [(1, 0), (0, 1)])
        self.assertEqual(other.beside((0, 0)), [(1, 0)])
        self.assertEqual(one.rows(), ["##", "##"])


if __name__ == "__main__":
    unittest.main()
