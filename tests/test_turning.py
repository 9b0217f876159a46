import itertools
import random
import unittest

from tests.shapes import (
    LAID, Flatterer, Stubborn, all_layings, cells_of, each_laying, grown_floors, is_told_laying, no_places,
    plain_heights, plain_turns, small_floors, turns_from,
)
from turnfloor.errors import NoTurn
from turnfloor.floors import Floor
from turnfloor.heights import heights_of
from turnfloor.turning import turned_at, turns_apart, turns_of, way_between

SQUARE = ["##", "##"]
ACROSS = [((0, 0), (1, 0)), ((0, 1), (1, 1))]
DOWN = [((0, 0), (0, 1)), ((1, 0), (1, 1))]
LARGEST = ["######"] * 6
FORKED = ["..##", "..##", "####", "####"]
WINDING = ["######", ".....#", "######", "#.....", "######", "....##"]

# Small floors that have several layings, some of which are not come to in one turn.
SEVERAL = [rows for rows in small_floors(3, 4) + small_floors(4, 3) + small_floors(2, 6) if len(all_layings(rows)) > 1]
MANY = [["####"] * 4, FORKED, ["######"] * 3, ["###"] * 6, ["#####", "#####", "####.", "####."],
        [".##.", "####", "####", ".##."], ["######", "######", "##..##", "##...."]]


def large_floors():
    """Large floors that grew, each with two of its layings, the same ones each time."""
    chance = random.Random(8)
    found = []
    for rows in grown_floors(60, 9):
        layings = list(itertools.islice(each_laying(cells_of(rows)), 2000))
        if len(layings) > 1:
            found.append((rows, *chance.sample(layings, 2)))
    return found


class TurnsOfTest(unittest.TestCase):
    def test_a_square_has_one_turn(self):
        self.assertEqual(turns_of(Floor(SQUARE), ACROSS), [(1, 1)])
        self.assertEqual(turns_of(Floor(SQUARE), DOWN), [(1, 1)])

    def test_corners_are_told_by_y_then_by_x(self):
        upright = [((x, y), (x, y + 1)) for y in (0, 2, 4) for x in range(6)]
        self.assertEqual(turns_of(Floor(LARGEST), upright), [(x, y) for y in (1, 3, 5) for x in range(1, 6)])
        lying = [((x, y), (x + 1, y)) for y in range(6) for x in (0, 2, 4)]
        self.assertEqual(turns_of(Floor(LARGEST), lying), [(x, y) for y in range(1, 6) for x in (1, 3, 5)])

    def test_floors_of_one_laying_have_none(self):
        for rows in LAID:
            if len(cells_of(rows)) < 30 and len(all_layings(rows)) == 1:
                self.assertEqual(turns_of(Floor(rows), all_layings(rows)[0]), [])

    def test_no_turn_where_three_or_four_pieces_lie_round_a_corner(self):
        pieces = [((0, 0), (0, 1)), ((1, 0), (2, 0)), ((1, 1), (2, 1))]
        self.assertEqual(turns_of(Floor(["###", "###"]), pieces), [(2, 1)])
        wheel = [((1, 0), (2, 0)), ((0, 0), (0, 1)), ((3, 0), (3, 1)), ((1, 1), (1, 2)), ((2, 1), (2, 2)),
                 ((0, 2), (0, 3)), ((3, 2), (3, 3)), ((1, 3), (2, 3))]
        self.assertEqual(turns_of(Floor(["####"] * 4), wheel), [(2, 2)])
        around = [((0, 0), (0, 1)), ((1, 0), (2, 0)), ((1, 1), (1, 2)), ((2, 1), (2, 2)), ((0, 2), (0, 3)),
                  ((1, 3), (2, 3))]
        self.assertEqual(turns_of(Floor(["###"] * 4), around), [(2, 2)])

    def test_no_turn_at_the_rim(self):
        # Two pieces lie side by side round these corners, but there are just three cells or two round them.
        self.assertEqual(turns_of(Floor(["####"]), [((0, 0), (1, 0)), ((2, 0), (3, 0))]), [])
        self.assertEqual(turns_of(Floor([".#", "##", "#."]), [((1, 0), (1, 1)), ((0, 1), (0, 2))]), [])

    def test_all_layings_of_small_floors(self):
        for rows in SEVERAL + MANY[:3]:
            for laying in all_layings(rows):
                with self.subTest(rows=rows, laying=laying):
                    told = turns_of(Floor(rows), laying)
                    self.assertIs(type(told), list)
                    self.assertEqual(told, list(plain_turns(laying)))

    def test_layings_of_large_floors(self):
        for rows, one, other in large_floors():
            self.assertEqual(turns_of(Floor(rows), one), list(plain_turns(one)))
            self.assertEqual(turns_of(Floor(rows), other), list(plain_turns(other)))
        for laying in list(each_laying(cells_of(LARGEST)))[::97]:
            self.assertEqual(turns_of(Floor(LARGEST), laying), list(plain_turns(laying)))

    def test_pieces_and_cells_may_stand_in_any_order(self):
        for rows in MANY:
            laying = all_layings(rows)[1]
            self.assertEqual(turns_of(Floor(rows), [piece[::-1] for piece in laying[::-1]]), list(plain_turns(laying)))


class TurnedAtTest(unittest.TestCase):
    def refused(self, rows, laying, corner):
        with self.assertRaises(NoTurn) as caught:
            turned_at(Floor(rows), laying, corner)
        self.assertIs(type(caught.exception), NoTurn)

    def test_a_square_is_turned_there_and_back(self):
        self.assertEqual(turned_at(Floor(SQUARE), ACROSS, (1, 1)), DOWN)
        self.assertEqual(turned_at(Floor(SQUARE), DOWN, (1, 1)), ACROSS)

    def test_each_turn_of_small_floors(self):
        for rows in SEVERAL + MANY[:3]:
            for laying in all_layings(rows):
                for corner, behind in plain_turns(laying).items():
                    with self.subTest(rows=rows, laying=laying, corner=corner):
                        told = turned_at(Floor(rows), laying, corner)
                        self.assertEqual(told, behind)
                        self.assertEqual(turned_at(Floor(rows), told, corner), laying)

    def test_turns_of_large_floors(self):
        for rows, laying, _ in large_floors():
            for corner, behind in plain_turns(laying).items():
                self.assertEqual(turned_at(Floor(rows), laying, corner), behind)

    def test_the_height_of_that_corner_alone_changes_by_four(self):
        for rows in MANY:
            for laying in all_layings(rows)[::9]:
                before = heights_of(Floor(rows), laying)
                for corner in turns_of(Floor(rows), laying):
                    after = heights_of(Floor(rows), turned_at(Floor(rows), laying, corner))
                    self.assertEqual(abs(after[corner] - before[corner]), 4)
                    self.assertEqual({**after, corner: 0}, {**before, corner: 0})

    def test_pieces_and_cells_may_stand_in_any_order(self):
        for rows in MANY:
            laying = all_layings(rows)[1]
            for corner, behind in plain_turns(laying).items():
                told = turned_at(Floor(rows), [piece[::-1] for piece in laying[::-1]], corner)
                self.assertEqual(told, behind)
                self.assertTrue(is_told_laying(rows, told))

    def test_other_corners_are_refused(self):
        for rows in MANY + [["##"], ["###", "##.", ".#."], WINDING]:
            for laying in all_layings(rows)[::7]:
                for corner in itertools.product(range(-1, 8), repeat=2):
                    if corner not in plain_turns(laying):
                        self.refused(rows, laying, corner)

    def test_other_things_are_refused(self):
        for laying in [ACROSS, DOWN]:
            for thing in no_places() + [[1, 1], (True, True), (True, 1), (1, True), (1.0, 1), (1, 1.0), (1, 1, 1), "11",
                                        ((1, 1),), [(1, 1)], {(1, 1)}, {(1, 1): 1}, (1 + 0j, 1), 11, (10 ** 40, 1),
                                        Flatterer((1, 1)), (Flatterer(1), 1), (1, Flatterer(1)), (1, Stubborn()),
                                        (Stubborn(), 1), Stubborn, Floor(SQUARE), ACROSS, ACROSS[0]]:
                with self.subTest(kind=type(thing).__name__):
                    self.refused(SQUARE, laying, thing)


class TurnsApartTest(unittest.TestCase):
    def agrees(self, rows, one, other, fewest):
        floor = Floor(rows)
        self.assertEqual(turns_apart(floor, one, other), fewest)
        self.assertIs(type(turns_apart(floor, one, other)), int)
        way = way_between(floor, one, other)
        self.assertIs(type(way), list)
        self.assertEqual(len(way), fewest)
        here = one
        for corner in way:
            self.assertIs(type(corner), tuple)
            here = plain_turns(here)[corner]
        self.assertEqual(here, other)

    def test_a_square(self):
        self.agrees(SQUARE, ACROSS, DOWN, 1)
        self.agrees(SQUARE, DOWN, ACROSS, 1)
        self.assertEqual(way_between(Floor(SQUARE), DOWN, ACROSS), [(1, 1)])

    def test_a_laying_and_itself(self):
        for rows in LAID:
            laying = next(each_laying(cells_of(rows)))
            self.agrees(rows, laying, laying, 0)
            self.assertEqual(way_between(Floor(rows), laying, laying[::-1]), [])
            self.assertEqual(turns_apart(Floor(rows), [piece[::-1] for piece in laying], laying), 0)

    def test_all_pairs_of_layings_of_small_floors(self):
        for rows in SEVERAL[::2] + [["###"] * 4, FORKED]:
            layings = all_layings(rows)
            for one in layings:
                fewest = turns_from(one)
                self.assertEqual(len(fewest), len(layings), "each laying is come to from each other one")
                for other in layings:
                    with self.subTest(rows=rows, one=one, other=other):
                        self.agrees(rows, one, other, fewest[tuple(other)])

    def test_pairs_of_layings_of_larger_floors(self):
        for rows in MANY:
            layings = all_layings(rows)
            for one in layings[::11]:
                fewest = turns_from(one)
                self.assertEqual(len(fewest), len(layings))
                for other in layings[::3]:
                    with self.subTest(rows=rows, one=one, other=other):
                        self.agrees(rows, one, other, fewest[tuple(other)])

    def test_layings_of_large_floors(self):
        largest = list(each_laying(cells_of(LARGEST)))
        pairs = [(LARGEST, largest[k], largest[-1 - 7 * k]) for k in range(0, 900, 60)]
        for rows, one, other in large_floors() + pairs:
            heights = plain_heights(rows, one)
            goal = plain_heights(rows, other)
            apart = sum(abs(heights[corner] - goal[corner]) for corner in heights)
            self.assertEqual(apart % 4, 0)
            self.agrees(rows, one, other, apart // 4)
            self.agrees(rows, other, one, apart // 4)

    def test_ways_are_walked_by_turned_at(self):
        for rows, one, other in large_floors():
            here = one
            for corner in way_between(Floor(rows), one, other):
                here = turned_at(Floor(rows), here, corner)
            self.assertEqual(here, other)

    def test_pieces_and_cells_may_stand_in_any_order(self):
        for rows in MANY:
            one, other = all_layings(rows)[0], all_layings(rows)[-1]
            apart = turns_from(one)[tuple(other)]
            mixed = [piece[::-1] for piece in one[::-1]], [piece[::-1] for piece in other[1:] + other[:1]]
            self.assertEqual(turns_apart(Floor(rows), *mixed), apart)
            self.assertEqual(len(way_between(Floor(rows), *mixed)), apart)
            here = one
            for corner in way_between(Floor(rows), *mixed):
                here = plain_turns(here)[corner]
            self.assertEqual(here, other)


if __name__ == "__main__":
    unittest.main()
