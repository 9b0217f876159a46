import itertools
import random
import unittest

from tests.shapes import (
    LAID, SHORT, all_layings, cells_of, each_laying, grown_floors, is_told_laying, plain_heights, plain_turns,
    small_floors,
)
from turnfloor.beneath import greatest_laying, least_laying, lower_of, upper_of
from turnfloor.errors import NoLaying
from turnfloor.floors import Floor
from turnfloor.heights import heights_of
from turnfloor.turning import turned_at, turns_of

SQUARE = ["##", "##"]
ACROSS = [((0, 0), (1, 0)), ((0, 1), (1, 1))]
DOWN = [((0, 0), (0, 1)), ((1, 0), (1, 1))]
LARGEST = ["######"] * 6
MANY = [["####"] * 4, ["..##", "..##", "####", "####"], ["######"] * 3, ["###"] * 6,
        ["#####", "#####", "####.", "####."], [".##.", "####", "####", ".##."]]


def small_laid():
    return [rows for rows in small_floors(3, 4) + small_floors(4, 3) + small_floors(2, 6) if all_layings(rows)]


def large_laid():
    return [rows for rows in grown_floors(80, 21) if next(each_laying(cells_of(rows)), None)]


def lesser(one, other):
    return {corner: min(one[corner], other[corner]) for corner in one}


def greater(one, other):
    return {corner: max(one[corner], other[corner]) for corner in one}


class LowerAndUpperTest(unittest.TestCase):
    def agrees(self, rows, one, other):
        floor = Floor(rows)
        heights = plain_heights(rows, one), plain_heights(rows, other)
        for told, wanted in [(lower_of(floor, one, other), lesser(*heights)),
                             (upper_of(floor, one, other), greater(*heights))]:
            self.assertTrue(is_told_laying(rows, told))
            self.assertEqual(plain_heights(rows, told), wanted)

    def all_pairs_agree(self, rows):
        floor = Floor(rows)
        known = [(laying, plain_heights(rows, laying)) for laying in all_layings(rows)]
        for (one, here), (other, there) in itertools.product(known, repeat=2):
            with self.subTest(rows=rows, one=one, other=other):
                self.assertIn((lower_of(floor, one, other), lesser(here, there)), known)
                self.assertIn((upper_of(floor, one, other), greater(here, there)), known)

    def test_a_square(self):
        floor = Floor(SQUARE)
        for one, other in [(ACROSS, DOWN), (DOWN, ACROSS)]:
            self.assertEqual(lower_of(floor, one, other), DOWN)
            self.assertEqual(upper_of(floor, one, other), ACROSS)

    def test_the_lower_one_may_be_neither_of_both(self):
        rows = ["####", "####"]
        left_up = [((0, 0), (1, 0)), ((2, 0), (2, 1)), ((3, 0), (3, 1)), ((0, 1), (1, 1))]
        right_up = [((0, 0), (0, 1)), ((1, 0), (1, 1)), ((2, 0), (3, 0)), ((2, 1), (3, 1))]
        self.assertEqual(lower_of(Floor(rows), left_up, right_up),
                         [((x, 0), (x, 1)) for x in range(4)])
        self.assertEqual(upper_of(Floor(rows), left_up, right_up),
                         [((x, y), (x + 1, y)) for y in range(2) for x in (0, 2)])

    def test_a_laying_and_itself(self):
        for rows in LAID:
            laying = next(each_laying(cells_of(rows)))
            self.assertEqual(lower_of(Floor(rows), laying, laying[::-1]), laying)
            self.assertEqual(upper_of(Floor(rows), laying[::-1], laying), laying)

    def test_all_pairs_of_layings_of_small_floors(self):
        for rows in small_laid()[::2] + MANY[:2]:
            self.all_pairs_agree(rows)

    def test_pairs_of_layings_of_larger_floors(self):
        chance = random.Random(6)
        for rows in MANY + large_laid()[::3] + [LARGEST]:
            layings = all_layings(rows)
            for _ in range(20):
                with self.subTest(rows=rows):
                    self.agrees(rows, chance.choice(layings), chance.choice(layings))

    def test_pieces_and_cells_may_stand_in_any_order(self):
        for rows in MANY:
            one, other = all_layings(rows)[1], all_layings(rows)[-2]
            mixed = [piece[::-1] for piece in one[::-1]], [piece[::-1] for piece in other[1:] + other[:1]]
            self.assertEqual(lower_of(Floor(rows), *mixed), lower_of(Floor(rows), one, other))
            self.assertEqual(upper_of(Floor(rows), *mixed), upper_of(Floor(rows), one, other))


class LeastAndGreatestTest(unittest.TestCase):
    def agrees(self, rows):
        """Hold both answers against all layings."""
        found = [(plain_heights(rows, laying), laying) for laying in all_layings(rows)]
        lowest = highest = found[0][0]
        for heights, _ in found:
            lowest, highest = lesser(lowest, heights), greater(highest, heights)
        self.assertEqual([least_laying(Floor(rows))], [laying for heights, laying in found if heights == lowest])
        self.assertEqual([greatest_laying(Floor(rows))], [laying for heights, laying in found if heights == highest])

    def test_a_square(self):
        self.assertEqual(least_laying(Floor(SQUARE)), DOWN)
        self.assertEqual(greatest_laying(Floor(SQUARE)), ACROSS)
        self.assertEqual(least_laying(Floor([".##", ".##"])), [((1, 0), (2, 0)), ((1, 1), (2, 1))])
        self.assertEqual(greatest_laying(Floor([".##", ".##"])), [((1, 0), (1, 1)), ((2, 0), (2, 1))])

    def test_floors_of_one_laying(self):
        for rows in LAID[:4] + [["###", "##.", ".#."], ["####", "#..#", "#..#", "#..#"]]:
            only = all_layings(rows)
            self.assertEqual([least_laying(Floor(rows))], only)
            self.assertEqual([greatest_laying(Floor(rows))], only)

    def test_all_small_floors(self):
        for rows in small_laid():
            with self.subTest(rows=rows):
                self.agrees(rows)

    def test_larger_floors(self):
        for rows in MANY + LAID[:-1] + large_laid():
            with self.subTest(rows=rows):
                self.agrees(rows)

    def test_the_largest_floor(self):
        self.agrees(LARGEST)

    def test_turns_that_make_a_height_less_lead_to_the_least_one_in_any_order(self):
        chance = random.Random(10)
        for rows in MANY + [LARGEST] + large_laid()[::5]:
            floor = Floor(rows)
            layings = all_layings(rows)
            for _ in range(4):
                start = chance.choice(layings)
                for sign, goal in [(1, least_laying(floor)), (-1, greatest_laying(floor))]:
                    self.assertEqual(self.turned_as_long_as_there_is_one(rows, start, sign, chance), goal)

    def turned_as_long_as_there_is_one(self, rows, laying, sign, chance):
        """The laying where no turn is left that makes a height less, or with the sign -1 greater."""
        while True:
            here = plain_heights(rows, laying)
            behind = [told for corner, told in plain_turns(laying).items()
                      if (plain_heights(rows, told)[corner] - here[corner]) * sign < 0]
            if not behind:
                return laying
            laying = chance.choice(behind)

    def test_no_turn_leads_beneath_the_least_one_or_above_the_greatest(self):
        for rows in MANY + LAID + large_laid():
            floor = Floor(rows)
            for laying, sign in [(least_laying(floor), 1), (greatest_laying(floor), -1)]:
                heights = heights_of(floor, laying)
                for corner in turns_of(floor, laying):
                    behind = heights_of(floor, turned_at(floor, laying, corner))
                    self.assertEqual(behind[corner] - heights[corner], 4 * sign)

    def test_a_floor_without_a_laying_has_none(self):
        for rows in SHORT + [rows for rows in small_floors(3, 4) if not all_layings(rows)][::5]:
            for told in [least_laying, greatest_laying]:
                with self.subTest(rows=rows), self.assertRaises(NoLaying) as caught:
                    told(Floor(rows))
                self.assertIs(type(caught.exception), NoLaying)


if __name__ == "__main__":
    unittest.main()
