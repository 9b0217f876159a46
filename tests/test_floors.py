import unittest

from tests.shapes import (
    HOLED, LAID, PARTED, SHORT, Flatterer, Stubborn, cells_of, grids, grown_floors, kind_of, no_places, small_floors,
    touch,
)
from turnfloor.errors import BadFloor, Holed, NoCell, Parted
from turnfloor.floors import Floor, is_dark

FLOORS = LAID + SHORT


def in_order(places):
    return sorted(places, key=lambda place: (place[1], place[0]))


def corners_of(rows):
    return in_order({(x + a, y + b) for x, y in cells_of(rows) for a in (0, 1) for b in (0, 1)})


def inner_of(rows):
    cells = cells_of(rows)
    return [(x, y) for x, y in corners_of(rows) if all((x - a, y - b) in cells for a in (0, 1) for b in (0, 1))]


class FloorCase(unittest.TestCase):
    def refused(self, error, call, *handed):
        with self.assertRaises(error) as caught:
            call(*handed)
        self.assertIs(type(caught.exception), error)

    def agrees(self, rows):
        floor = Floor(list(rows))
        cells = cells_of(rows)
        self.assertEqual(floor.rows(), rows)
        self.assertEqual(floor.cells(), cells)
        self.assertEqual(floor.corners(), corners_of(rows))
        self.assertEqual(floor.inner(), inner_of(rows))
        for cell in cells:
            self.assertEqual(floor.beside(cell), [other for other in cells if touch(cell, other)])


class RowsTest(FloorCase):
    def test_each_good_floor_is_taken(self):
        for rows in FLOORS + grown_floors(40, 1):
            with self.subTest(rows=rows):
                self.agrees(rows)

    def test_each_grid_of_three_by_three_is_told_rightly(self):
        refusals = {"empty": BadFloor, "parted": Parted, "holed": Holed}
        for rows in grids(3, 3) + grids(4, 2) + grids(2, 4):
            kind = kind_of(rows)
            with self.subTest(rows=rows):
                if kind == "floor":
                    self.agrees(rows)
                else:
                    self.refused(refusals[kind], Floor, rows)

    def test_each_grid_of_four_by_four_is_told_rightly(self):
        refusals = {"empty": BadFloor, "parted": Parted, "holed": Holed}
        for rows in grids(4, 4)[::5]:
            kind = kind_of(rows)
            if kind == "floor":
                self.assertEqual(Floor(rows).cells(), cells_of(rows))
            else:
                with self.subTest(rows=rows):
                    self.refused(refusals[kind], Floor, rows)

    def test_one_to_six_texts_of_one_to_six_signs_are_taken(self):
        for many in range(1, 7):
            for length in range(1, 7):
                with self.subTest(many=many, length=length):
                    self.agrees(["#" * length] * many)

    def test_no_text_and_seven_texts_are_refused(self):
        self.refused(BadFloor, Floor, [])
        self.refused(BadFloor, Floor, ["#"] * 7)
        self.refused(BadFloor, Floor, ["######"] * 7)
        self.refused(BadFloor, Floor, ["#"] * 100)

    def test_texts_of_no_sign_and_of_seven_are_refused(self):
        for many in range(1, 7):
            self.refused(BadFloor, Floor, [""] * many)
            self.refused(BadFloor, Floor, ["#######"] * many)
            self.refused(BadFloor, Floor, [".######"] * many)

    def test_texts_of_several_lengths_are_refused(self):
        for rows in [["#", "##"], ["##", "#"], ["##", "##", "###"], ["", "#"], ["#", ""], ["###", "##", "###"],
                     ["######", "#####"], ["##", "##", "##", "##", "##", "#"], ["#######", "######"]]:
            with self.subTest(rows=rows):
                self.refused(BadFloor, Floor, rows)

    def test_other_signs_are_refused(self):
        for text in ["x", " ", "#x", "x#", "# ", " #", "#\n", "\n#", "#,", "0", "1", "o#", "#:", "#\0", "\uff03",
                     "#\u00b7", "##.#X#", "><", "v^", "#-."]:
            with self.subTest(text=text):
                self.refused(BadFloor, Floor, [text])
                self.refused(BadFloor, Floor, ["#" * len(text), text])

    def test_what_is_no_list_is_refused(self):
        for thing in no_places() + [("#",), ("##", "##"), "##", "#", {"#": 1}, {0: "#"}, {"#"}, frozenset(["#"]),
                                    iter(["#"]), b"#", (row for row in ["#"]), Floor, Floor(["#"]), Flatterer("#")]:
            with self.subTest(kind=type(thing).__name__):
                self.refused(BadFloor, Floor, thing)

    def test_what_is_no_text_among_the_rows_is_refused(self):
        for thing in no_places():
            if type(thing) is str:
                continue
            with self.subTest(kind=type(thing).__name__):
                self.refused(BadFloor, Floor, [thing])
                self.refused(BadFloor, Floor, ["##", thing])
                self.refused(BadFloor, Floor, [thing, "##"])
        for thing in [b"##", ["#", "#"], ("#", "#"), {"#": 1, ".": 2}, ["##"], Flatterer("##")]:
            with self.subTest(thing=type(thing).__name__):
                self.refused(BadFloor, Floor, ["##", thing])
                self.refused(BadFloor, Floor, [thing, thing])
                self.refused(BadFloor, Floor, [thing])

    def test_a_list_that_holds_itself_is_refused(self):
        rows = ["#"]
        rows.append(rows)
        self.refused(BadFloor, Floor, rows)

    def test_no_cell_is_refused(self):
        for rows in [["."], ["......"], ["."] * 6, ["..", ".."], ["......"] * 6]:
            with self.subTest(rows=rows):
                self.refused(BadFloor, Floor, rows)

    def test_cells_that_do_not_hang_together_are_refused(self):
        for rows in PARTED:
            with self.subTest(rows=rows):
                self.refused(Parted, Floor, rows)

    def test_holes_are_refused(self):
        for rows in HOLED:
            with self.subTest(rows=rows):
                self.refused(Holed, Floor, rows)

    def test_bays_are_no_holes(self):
        for rows in [["###", "#.#", "#.#"], ["#.#", "#.#", "###"], ["###", "#..", "###"], ["###", "..#", "###"],
                     ["#.#", "###"], ["######", "#....#", "#.##.#", "#..#.#", "####.#"],
                     ["####.#", "#..#.#", "#.##.#", "#....#", "######"],
                     ["######", "#....#", "#.####", "#....#", "####.#"]]:
            with self.subTest(rows=rows):
                self.agrees(rows)

    def test_bad_floor_comes_first(self):
        for rows in [["#.#", "x.#"], ["#.#", "##"], ["#.#", None], ["###", "#.#", "##x"], ["###", "#.#", "###", "#"],
                     ["#.#.#.#"], ["#", ".", "#", ".", "#", ".", "#"], ["#######", "#.#...#", "#######"]]:
            with self.subTest(rows=rows):
                self.refused(BadFloor, Floor, rows)

    def test_parted_comes_before_holed(self):
        for rows in [["###.#", "#.#..", "###.."], ["###...", "#.#...", "###...", "...###", "...#.#", "...###"],
                     ["#####", "#...#", "#.#.#", "#...#", "#####"], [".#.", "#.#", ".#."]]:
            with self.subTest(rows=rows):
                self.refused(Parted, Floor, rows)

    def test_empty_rows_and_columns_may_lie_around(self):
        for rows in [["...", ".#.", "..."], ["......"] * 5 + [".....#"], ["#....."] + ["......"] * 5,
                     ["....", ".##.", ".##.", "...."]]:
            with self.subTest(rows=rows):
                self.agrees(rows)


class HasTest(FloorCase):
    def test_cells_are_had_and_other_places_are_not(self):
        for rows in FLOORS:
            floor = Floor(rows)
            for x in range(-2, 9):
                for y in range(-2, 9):
                    with self.subTest(rows=rows, place=(x, y)):
                        self.assertIs(floor.has((x, y)), (x, y) in cells_of(rows))

    def test_other_things_are_not_had(self):
        for rows in [["#"], ["##", "##"], ["######"] * 6]:
            floor = Floor(rows)
            for thing in no_places() + [(10 ** 40, 0), (0, -10 ** 40), Floor(rows), Flatterer((1, 1))]:
                with self.subTest(kind=type(thing).__name__):
                    self.assertIs(floor.has(thing), False)

    def test_true_and_false_are_no_numbers(self):
        floor = Floor(["##", "##"])
        for x in (0, 1):
            for y in (0, 1):
                self.assertIs(floor.has((x, y)), True)
                for place in [(bool(x), y), (x, bool(y)), (bool(x), bool(y)), (float(x), y), (x, float(y))]:
                    self.assertIs(floor.has(place), False)

    def test_after_a_lookalike_was_asked_the_cell_is_still_had(self):
        floor = Floor(["##", "##"])
        self.assertIs(floor.has((True, 1)), False)
        self.assertIs(floor.has((1, 1)), True)
        self.assertIs(floor.has((True, 1)), False)


class CellsTest(FloorCase):
    def test_cells_are_told_by_y_then_by_x(self):
        self.assertEqual(Floor(["###", "##.", ".#."]).cells(), [(0, 0), (1, 0), (2, 0), (0, 1), (1, 1), (1, 2)])
        self.assertEqual(Floor(["..#", "###"]).cells(), [(2, 0), (0, 1), (1, 1), (2, 1)])
        self.assertEqual(Floor(["...", ".#."]).cells(), [(1, 1)])

    def test_the_first_text_is_the_uppermost_row(self):
        floor = Floor(["#...", "####"])
        self.assertEqual(floor.rows(), ["#...", "####"])
        self.assertEqual(floor.cells(), [(0, 0), (0, 1), (1, 1), (2, 1), (3, 1)])

    def test_what_is_told_has_the_kinds_that_are_promised(self):
        floor = Floor(["##", "##"])
        for told in [floor.rows(), floor.cells(), floor.beside((0, 0)), floor.corners(), floor.inner()]:
            self.assertIs(type(told), list)
        for place in floor.cells() + floor.beside((0, 0)) + floor.corners() + floor.inner():
            self.assertIs(type(place), tuple)
            self.assertEqual([type(number) for number in place], [int, int])

    def test_a_cell_is_dark_where_x_and_y_together_are_even(self):
        for x in range(-7, 8):
            for y in range(-7, 8):
                self.assertIs(is_dark((x, y)), (x + y) in range(-14, 15, 2))
        self.assertIs(is_dark((0, 0)), True)
        self.assertIs(is_dark((1, 0)), False)
        self.assertIs(is_dark((0, 1)), False)
        self.assertIs(is_dark((1, 1)), True)


class CornersTest(FloorCase):
    def test_one_cell_has_four_corners(self):
        self.assertEqual(Floor(["#"]).corners(), [(0, 0), (1, 0), (0, 1), (1, 1)])
        self.assertEqual(Floor(["...", "..#"]).corners(), [(2, 1), (3, 1), (2, 2), (3, 2)])
        self.assertEqual(Floor(["#"]).inner(), [])

    def test_corners_are_told_by_y_then_by_x(self):
        self.assertEqual(
            Floor(["..#", "###"]).corners(),
            [(2, 0), (3, 0), (0, 1), (1, 1), (2, 1), (3, 1), (0, 2), (1, 2), (2, 2), (3, 2)],
        )

    def test_the_first_corner_is_the_upper_left_one_of_the_first_cell(self):
        for rows in FLOORS:
            self.assertEqual(Floor(rows).corners()[0], Floor(rows).cells()[0])

    def test_the_largest_floor_has_forty_nine_corners(self):
        floor = Floor(["######"] * 6)
        self.assertEqual(floor.corners(), [(x, y) for y in range(7) for x in range(7)])
        self.assertEqual(floor.inner(), [(x, y) for y in range(1, 6) for x in range(1, 6)])

    def test_a_corner_with_three_cells_round_it_is_no_inner_one(self):
        for rows in [["##", "#."], ["##", ".#"], ["#.", "##"], [".#", "##"]]:
            self.assertEqual(Floor(rows).inner(), [])
            self.assertEqual(len(Floor(rows).corners()), 8)
        self.assertEqual(Floor(["##", "##"]).inner(), [(1, 1)])
        self.assertEqual(Floor(["###", "##.", ".#."]).inner(), [(1, 1)])
        self.assertEqual(Floor(["..##", "..##", "####", "####"]).inner(), [(3, 1), (3, 2), (1, 3), (2, 3), (3, 3)])

    def test_corners_of_small_floors(self):
        for rows in small_floors(3, 4)[::3] + small_floors(4, 3)[::3]:
            with self.subTest(rows=rows):
                self.agrees(rows)


class BesideTest(FloorCase):
    def test_cells_beside_one_are_told_in_order(self):
        floor = Floor(["###", "###", "###"])
        self.assertEqual(floor.beside((1, 1)), [(1, 0), (0, 1), (2, 1), (1, 2)])
        self.assertEqual(floor.beside((0, 0)), [(1, 0), (0, 1)])
        self.assertEqual(floor.beside((2, 2)), [(2, 1), (1, 2)])
        self.assertEqual(Floor(["#"]).beside((0, 0)), [])

    def test_places_that_are_no_cells_are_left_out(self):
        self.assertEqual(Floor(["#.#", "###"]).beside((1, 1)), [(0, 1), (2, 1)])
        self.assertEqual(Floor(["#.#", "###"]).beside((0, 0)), [(0, 1)])

    def test_places_that_are_no_cells_are_refused(self):
        for rows in FLOORS:
            floor = Floor(rows)
            for x in range(-2, 9):
                for y in range(-2, 9):
                    if (x, y) not in cells_of(rows):
                        self.refused(NoCell, floor.beside, (x, y))

    def test_other_things_are_refused(self):
        for rows in [["#"], ["##", "##"], ["######"] * 6]:
            floor = Floor(rows)
            for thing in no_places() + [(10 ** 40, 0), (0, -10 ** 40), (True, True), (1.0, 1), (1, True), Stubborn]:
                with self.subTest(kind=type(thing).__name__):
                    self.refused(NoCell, floor.beside, thing)


if __name__ == "__main__":
    unittest.main()
