"""Point 1: nothing outside is used, nothing handed in is changed, and nothing told hangs on anything."""

import os
import pathlib
import subprocess
import sys
import unittest

from tests.shapes import LAID, SHORT, no_layings, no_places
from turnfloor.beneath import greatest_laying, least_laying, lower_of, upper_of
from turnfloor.errors import BadFloor, BadLaying, BadText, FloorError, NoCell, NoHeights, NoLaying, NoTurn
from turnfloor.floors import Floor
from turnfloor.heights import heights_of, is_heights, laying_from
from turnfloor.layings import laid_or_short, told_laying
from turnfloor.texts import read_text, shown_text
from turnfloor.turning import turned_at, turns_apart, turns_of, way_between

TOP = pathlib.Path(__file__).resolve().parent.parent

ASK_ALL = """
import sys
import tests.shapes as shapes
from tests.test_standing_alone import all_told
from turnfloor.floors import Floor
floors = shapes.LAID + shapes.SHORT + shapes.grown_floors(20, 2)
outside = []
sys.addaudithook(lambda event, told: outside.append(event))
for rows in floors:
    told = all_told(Floor(rows))
    print(told) if not outside else sys.exit(f"something outside was used: {outside}")
    outside.clear()
"""


def asked_in_a_fresh_run(seed):
    surroundings = {**os.environ, "PYTHONHASHSEED": seed, "PYTHONPATH": str(TOP), "PYTHONDONTWRITEBYTECODE": "1"}
    done = subprocess.run([sys.executable, "-c", ASK_ALL], cwd=TOP, env=surroundings, capture_output=True, text=True)
    return done.returncode, done.stderr, done.stdout


def all_told(floor):
    """All lists and dicts that a floor tells, by new asking."""
    told = [floor.rows(), floor.cells(), floor.corners(), floor.inner()]
    told += [floor.beside(cell) for cell in floor.cells()]
    word, found = laid_or_short(floor)
    return told + [found] + (told_of_layings(floor) if word == "laid" else [])


def told_of_layings(floor):
    least, greatest = least_laying(floor), greatest_laying(floor)
    told = [least, greatest, way_between(floor, least, greatest), way_between(floor, greatest, least)]
    told += [lower_of(floor, least, greatest), upper_of(floor, least, greatest), turns_of(floor, least)]
    told += [turned_at(floor, least, corner) for corner in turns_of(floor, least)]
    for laying in [least, greatest]:
        heights = heights_of(floor, laying)
        told += [told_laying(floor, laying), heights, laying_from(floor, heights)]
        told += read_text(shown_text(floor, laying))
    return told


def copies(told):
    return [one.copy() for one in told]


def ask_for_refusals(floor):
    """Hand in wrong things wherever a refusal is told of them."""
    for call, error in [(Floor, BadFloor), (floor.beside, NoCell), (read_text, BadText)]:
        with_refusal(error, call, None)
    for call in [told_laying, heights_of, turns_of, shown_text]:
        with_refusal(BadLaying, call, floor, None)
    for call in [turned_at, turns_apart, way_between, lower_of, upper_of]:
        with_refusal(BadLaying, call, floor, None, None)
    with_refusal(NoHeights, laying_from, floor, None)
    is_heights(floor, None)
    with_refusal(NoLaying, least_laying, Floor(["#"]))
    with_refusal(NoLaying, greatest_laying, Floor(["#"]))
    with_refusal(NoTurn, turned_at, Floor(["##"]), [((0, 0), (1, 0))], (0, 0))


def with_refusal(error, call, *handed):
    try:
        call(*handed)
    except FloorError as refusal:
        if type(refusal) is error:
            return
    raise AssertionError(f"{call.__name__} did not refuse with {error.__name__}")


class OutsideTest(unittest.TestCase):
    def test_every_run_tells_the_same_and_uses_nothing_outside(self):
        first = asked_in_a_fresh_run("1")
        self.assertEqual(first[:2], (0, ""))
        self.assertEqual(len(first[2].splitlines()), len(LAID) + len(SHORT) + 20)
        self.assertEqual(asked_in_a_fresh_run("2"), first)


class HandedInTest(unittest.TestCase):
    def test_rows_are_not_changed(self):
        for rows in LAID + SHORT:
            handed = list(rows)
            all_told(Floor(handed))
            self.assertEqual(handed, rows)

    def test_refused_rows_are_not_changed(self):
        for rows in [["#.#"], ["###", "#.#", "###"], ["#", "##"], [".", "."], ["##", None]]:
            handed = list(rows)
            with self.assertRaises(ValueError):
                Floor(handed)
            self.assertEqual(handed, rows)

    def test_rows_may_be_changed_later(self):
        for spoil in [list.clear, list.reverse, lambda rows: rows.append("###"),
                      lambda rows: rows.__setitem__(0, "#.#")]:
            rows = ["###", "##.", ".#."]
            floor = Floor(rows)
            before = copies(all_told(floor))
            spoil(rows)
            self.assertEqual(all_told(floor), before)
            self.assertEqual(floor.rows(), ["###", "##.", ".#."])

    def test_rows_changed_before_anything_is_asked(self):
        rows = ["###", "##.", ".#."]
        floor = Floor(rows)
        rows.clear()
        self.assertEqual(all_told(floor), all_told(Floor(["###", "##.", ".#."])))
        self.assertIs(floor.has((1, 2)), True)

    def test_pieces_are_not_changed(self):
        handed = [((1, 1), (1, 0)), ((0, 1), (0, 0))]
        told_laying(Floor(["##", "##"]), handed)
        self.assertEqual(handed, [((1, 1), (1, 0)), ((0, 1), (0, 0))])

    def test_refused_pieces_are_not_changed(self):
        for pieces in [[], [((1, 1), (1, 0))], [((1, 1), (1, 0))] * 2, [((1, 1), (0, 1)), None, ((0, 0), (1, 0))],
                       [((1, 1), (1, 0)), ((0, 1), (0, 0)), ((1, 1), (1, 0))]]:
            handed = list(pieces)
            with self.assertRaises(BadLaying):
                told_laying(Floor(["##", "##"]), handed)
            self.assertEqual(handed, pieces)

    def test_pieces_may_be_changed_later(self):
        floor = Floor(["##", "##"])
        handed = [((0, 0), (1, 0)), ((0, 1), (1, 1))]
        told = told_laying(floor, handed)
        handed.clear()
        self.assertEqual(told, [((0, 0), (1, 0)), ((0, 1), (1, 1))])
        with self.assertRaises(BadLaying):
            told_laying(floor, handed)
        handed.extend([((0, 0), (0, 1)), ((1, 0), (1, 1))])
        self.assertEqual(told_laying(floor, handed), [((0, 0), (0, 1)), ((1, 0), (1, 1))])
        self.assertEqual(told, [((0, 0), (1, 0)), ((0, 1), (1, 1))])


class HandedInLayingsTest(unittest.TestCase):
    ROWS = ["####", "####", ".##."]
    ONE = [((0, 0), (0, 1)), ((1, 0), (1, 1)), ((2, 0), (2, 1)), ((3, 0), (3, 1)), ((1, 2), (2, 2))]
    OTHER = [((0, 0), (1, 0)), ((2, 0), (3, 0)), ((0, 1), (1, 1)), ((2, 1), (3, 1)), ((1, 2), (2, 2))]

    def mixed(self, laying):
        return [piece[::-1] for piece in laying[::-1]]

    def asked(self, one, other):
        floor = Floor(self.ROWS)
        told = []
        for laying in [one, other]:
            told += [call(floor, laying) for call in [told_laying, heights_of, turns_of, shown_text]]
        told += [call(floor, one, other) for call in [turns_apart, way_between, lower_of, upper_of]]
        return told + [turned_at(floor, one, (2, 1)), turned_at(floor, other, (1, 1))]

    def test_layings_are_not_changed(self):
        one, other = self.mixed(self.ONE), self.mixed(self.OTHER)
        self.assertEqual(self.asked(one, other), self.asked(self.ONE, self.OTHER))
        self.assertEqual((one, other), (self.mixed(self.ONE), self.mixed(self.OTHER)))

    def test_layings_may_be_changed_later(self):
        wanted = self.asked(self.ONE, self.OTHER)
        one, other = list(self.ONE), list(self.OTHER)
        told = self.asked(one, other)
        one.clear()
        other.reverse()
        self.assertEqual(told, wanted)
        one.extend(self.ONE)
        self.assertEqual(self.asked(one, other), wanted)

    def test_refused_layings_are_not_changed(self):
        floor = Floor(self.ROWS)
        for pieces in [self.ONE[1:], self.ONE + [None], self.ONE + [self.ONE[0]], self.ONE[:4] + self.OTHER[:1]]:
            handed, good = list(pieces), list(self.ONE)
            for call in [told_laying, heights_of, turns_of, shown_text]:
                with_refusal(BadLaying, call, floor, handed)
            for call in [turns_apart, way_between, lower_of, upper_of]:
                with_refusal(BadLaying, call, floor, handed, good)
                with_refusal(BadLaying, call, floor, good, handed)
            with_refusal(BadLaying, turned_at, floor, handed, (1, 1))
            self.assertEqual((handed, good), (pieces, self.ONE))

    def test_numbers_are_not_changed_and_may_be_changed_later(self):
        floor = Floor(self.ROWS)
        heights = heights_of(floor, self.ONE)
        numbers = dict(heights)
        self.assertIs(is_heights(floor, numbers), True)
        told = laying_from(floor, numbers)
        self.assertEqual(list(numbers.items()), list(heights.items()))
        numbers.clear()
        self.assertEqual(told, self.ONE)
        with_refusal(NoHeights, laying_from, floor, numbers)
        numbers.update(heights_of(floor, self.OTHER))
        self.assertEqual(laying_from(floor, numbers), self.OTHER)

    def test_refused_numbers_are_not_changed(self):
        floor = Floor(self.ROWS)
        heights = heights_of(floor, self.ONE)
        for numbers in [{}, {**heights, (0, 0): 1}, {**heights, (9, 9): 0}, {**heights, (0, 0): False}, {(0, 0): 0}]:
            handed = dict(numbers)
            self.assertIs(is_heights(floor, handed), False)
            with_refusal(NoHeights, laying_from, floor, handed)
            self.assertEqual(list(handed.items()), list(numbers.items()))


class AnyKindTest(unittest.TestCase):
    """Whatever is handed in where a refusal is told of it is refused so."""

    def test_things_of_any_kind(self):
        floor = Floor(["##", "##"])
        laying = [((0, 0), (1, 0)), ((0, 1), (1, 1))]
        for thing in no_places() + no_layings(["##", "##"]):
            with self.subTest(kind=type(thing).__name__):
                with_refusal(NoCell, floor.beside, thing)
                with_refusal(NoTurn, turned_at, floor, laying, thing)
                with_refusal(BadText, read_text, thing)
                with_refusal(NoHeights, laying_from, floor, thing)
                with_refusal(BadLaying, told_laying, floor, thing)
                self.assertIs(floor.has(thing), False)
                self.assertIs(is_heights(floor, thing), False)
        for thing in no_places():
            with self.subTest(kind=type(thing).__name__):
                with_refusal(BadFloor, Floor, thing)


class ToldTest(unittest.TestCase):
    def test_what_was_told_may_be_emptied(self):
        for rows in LAID + SHORT:
            floor = Floor(rows)
            before = copies(all_told(floor))
            for told in all_told(floor):
                told.clear()
            self.assertEqual(all_told(floor), before)

    def test_what_was_told_may_be_changed(self):
        for rows in LAID + SHORT:
            floor = Floor(rows)
            before = copies(all_told(floor))
            for told in all_told(floor):
                if type(told) is dict:
                    told.update({corner: 77 for corner in [*told, (9, 9)]})
                    continue
                told.append((9, 9))
                told.insert(0, "######")
                told.reverse()
            self.assertEqual(all_told(floor), before)
            self.assertIs(floor.has((9, 9)), False)

    def test_cells_are_had_after_the_told_ones_were_emptied(self):
        floor = Floor(["###", "##.", ".#."])
        for told in all_told(floor):
            told.clear()
        self.assertIs(floor.has((0, 0)), True)
        self.assertEqual(floor.beside((1, 1)), [(1, 0), (0, 1), (1, 2)])

    def test_what_was_told_is_not_changed_by_later_asking(self):
        for rows in LAID + SHORT:
            floor = Floor(rows)
            told = all_told(floor)
            before = copies(told)
            all_told(floor)
            for other in [["######"] * 6, ["#"], ["###"], ["##", "##"]]:
                all_told(Floor(other))
            ask_for_refusals(floor)
            self.assertEqual(told, before)
            self.assertEqual(all_told(floor), before)

    def test_each_told_list_is_a_new_one(self):
        for rows in [["#"], ["##", "##"], ["###", "##.", ".#."]]:
            floor = Floor(rows)
            lists = all_told(floor) + all_told(floor)
            self.assertEqual(len({id(one) for one in lists}), len(lists))

    def test_floors_do_not_hang_on_each_other(self):
        one = Floor(["##", "##"])
        other = Floor(["###", ".#."])
        self.assertEqual(one.cells(), [(0, 0), (1, 0), (0, 1), (1, 1)])
        self.assertEqual(other.cells(), [(0, 0), (1, 0), (2, 0), (1, 1)])
        self.assertIs(one.has((2, 0)), False)
        self.assertIs(other.has((0, 1)), False)
        self.assertEqual(one.beside((0, 0)), [(1, 0), (0, 1)])
        self.assertEqual(other.beside((0, 0)), [(1, 0)])
        self.assertEqual(one.rows(), ["##", "##"])


if __name__ == "__main__":
    unittest.main()
