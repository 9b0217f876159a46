import itertools
import random
import unittest

from tests.shapes import (
    LAID, SHORT, Flatterer, Stubborn, all_layings, cells_of, each_laying, grown_floors, no_places, plain_heights,
    sides_of, small_floors, steps_of, told_order,
)
from turnfloor.errors import BadLaying, NoHeights
from turnfloor.floors import Floor
from turnfloor.heights import heights_of, is_heights, laying_from

PAIR = ["##"]
SQUARE = ["##", "##"]
ACROSS = [((0, 0), (1, 0)), ((0, 1), (1, 1))]
DOWN = [((0, 0), (0, 1)), ((1, 0), (1, 1))]
RIM_OF_SQUARE = {
    (0, 0): 0, (1, 0): -1, (2, 0): 0,
    (0, 1): 1, (2, 1): 1,
    (0, 2): 0, (1, 2): -1, (2, 2): 0,
}


def some_layings(rows):
    """At most thirty layings of a floor, the first ones and the last one of some thousand."""
    found = list(itertools.islice(each_laying(cells_of(rows)), 7000))
    return found[:10] + found[10::max(1, len(found) // 20)]


class HeightsOfTest(unittest.TestCase):
    def test_a_piece_that_lies_across(self):
        self.assertEqual(
            heights_of(Floor(PAIR), [((0, 0), (1, 0))]),
            {(0, 0): 0, (1, 0): -1, (2, 0): 0, (0, 1): 1, (1, 1): 2, (2, 1): 1},
        )

    def test_a_piece_that_lies_down(self):
        self.assertEqual(
            heights_of(Floor(["#", "#"]), [((0, 0), (0, 1))]),
            {(0, 0): 0, (1, 0): -1, (0, 1): 1, (1, 1): -2, (0, 2): 0, (1, 2): -1},
        )

    def test_a_first_cell_that_is_light(self):
        self.assertEqual(
            heights_of(Floor([".##"]), [((1, 0), (2, 0))]),
            {(1, 0): 0, (2, 0): 1, (3, 0): 0, (1, 1): -1, (2, 1): -2, (3, 1): -1},
        )

    def test_the_two_layings_of_a_square(self):
        self.assertEqual(heights_of(Floor(SQUARE), ACROSS), {**RIM_OF_SQUARE, (1, 1): 2})
        self.assertEqual(heights_of(Floor(SQUARE), DOWN), {**RIM_OF_SQUARE, (1, 1): -2})

    def test_a_floor_that_forks(self):
        laying = [((0, 0), (0, 1)), ((1, 0), (2, 0)), ((1, 1), (1, 2))]
        self.assertEqual(heights_of(Floor(["###", "##.", ".#."]), laying), {
            (0, 0): 0, (1, 0): -1, (2, 0): 0, (3, 0): -1,
            (0, 1): 1, (1, 1): -2, (2, 1): -3, (3, 1): -2,
            (0, 2): 0, (1, 2): -1, (2, 2): -4,
            (1, 3): -2, (2, 3): -3,
        })

    def test_layings_of_floors_of_all_forms(self):
        for rows in LAID + [rows for rows in grown_floors(40, 11) if next(each_laying(cells_of(rows)), None)]:
            for laying in some_layings(rows):
                with self.subTest(rows=rows, laying=laying):
                    self.assertEqual(heights_of(Floor(rows), laying), plain_heights(rows, laying))

    def test_all_layings_of_small_floors(self):
        for rows in small_floors(3, 4) + small_floors(4, 3) + small_floors(2, 6):
            for laying in all_layings(rows):
                with self.subTest(rows=rows, laying=laying):
                    self.assertEqual(heights_of(Floor(rows), laying), plain_heights(rows, laying))

    def test_the_heights_are_the_same_whichever_way_one_goes(self):
        for rows in LAID:
            for laying in some_layings(rows):
                heights = heights_of(Floor(rows), laying)
                for (one, other), step in steps_of(rows, laying).items():
                    self.assertEqual(heights[other] - heights[one], step)

    def test_the_first_corner_has_nought(self):
        for rows in LAID + [["...", ".##"], ["....", "..#.", "..#."], ["..##", "..##", "####"]]:
            laying = next(each_laying(cells_of(rows)))
            self.assertEqual(heights_of(Floor(rows), laying)[Floor(rows).corners()[0]], 0)

    def test_pieces_and_cells_may_stand_in_any_order(self):
        for rows in LAID:
            laying = next(each_laying(cells_of(rows)))
            heights = heights_of(Floor(rows), laying)
            self.assertEqual(heights_of(Floor(rows), laying[::-1]), heights)
            self.assertEqual(heights_of(Floor(rows), [piece[::-1] for piece in laying]), heights)

    def test_a_dict_from_all_corners_to_whole_numbers_is_told(self):
        for rows in LAID:
            heights = heights_of(Floor(rows), next(each_laying(cells_of(rows))))
            self.assertIs(type(heights), dict)
            self.assertEqual(sorted(heights), sorted(Floor(rows).corners()))
            self.assertEqual({type(height) for height in heights.values()}, {int})
            self.assertEqual({(type(key), type(key[0]), type(key[1])) for key in heights}, {(tuple, int, int)})

    def test_floors_without_a_laying(self):
        for rows in SHORT:
            for pieces in [[], [((0, 0), (1, 0))], None]:
                with self.assertRaises(BadLaying):
                    heights_of(Floor(rows), pieces)


class HeightsCase(unittest.TestCase):
    def are_heights(self, rows, numbers, laying):
        self.assertIs(is_heights(Floor(rows), numbers), True)
        told = laying_from(Floor(rows), numbers)
        self.assertIs(type(told), list)
        self.assertEqual(told, laying)

    def are_none(self, rows, numbers):
        self.assertIs(is_heights(Floor(rows), numbers), False)
        with self.assertRaises(NoHeights) as caught:
            laying_from(Floor(rows), numbers)
        self.assertIs(type(caught.exception), NoHeights)

    def are_told_rightly(self, rows, numbers, known):
        """Hold the answer against pairs of the heights and the layings of a floor, all of them."""
        layings = [laying for heights, laying in known if heights == numbers]
        if layings:
            self.are_heights(rows, numbers, layings[0])
        else:
            self.are_none(rows, numbers)


def known_heights(rows):
    return [(plain_heights(rows, laying), laying) for laying in all_layings(rows)]


class IsHeightsTest(HeightsCase):
    def test_the_heights_of_layings_are_heights(self):
        for rows in LAID + small_floors(3, 4) + small_floors(4, 3):
            for laying in (some_layings(rows) if rows in LAID else all_layings(rows)):
                with self.subTest(rows=rows, laying=laying):
                    self.are_heights(rows, plain_heights(rows, laying), laying)

    def test_what_heights_of_tells_is_taken(self):
        for rows in LAID:
            laying = next(each_laying(cells_of(rows)))
            self.are_heights(rows, heights_of(Floor(rows), laying[::-1]), laying)

    def test_the_corners_may_stand_in_any_order(self):
        for rows in LAID:
            laying = next(each_laying(cells_of(rows)))
            numbers = plain_heights(rows, laying)
            self.are_heights(rows, dict(sorted(numbers.items())), laying)
            self.are_heights(rows, dict(sorted(numbers.items(), reverse=True)), laying)

    def test_just_two_numbers_fit_inside_a_square(self):
        for number in range(-20, 21):
            numbers = {**RIM_OF_SQUARE, (1, 1): number}
            if number == 2:
                self.are_heights(SQUARE, numbers, ACROSS)
            elif number == -2:
                self.are_heights(SQUARE, numbers, DOWN)
            else:
                self.are_none(SQUARE, numbers)

    def test_all_small_numbers_on_floors_of_one_and_two_cells(self):
        for rows in [["#"], PAIR, ["#", "#"], [".#"], [".", "#"], [".##"]]:
            corners = Floor(rows).corners()
            known = known_heights(rows)
            found = 0
            for rest in itertools.product(range(-3, 4), repeat=len(corners) - 1):
                numbers = dict(zip(corners, (0, *rest)))
                found += is_heights(Floor(rows), numbers)
                if numbers in [heights for heights, _ in known]:
                    self.are_told_rightly(rows, numbers, known)
            self.assertEqual(found, len(known))

    def test_one_number_changed(self):
        for rows in [PAIR, SQUARE, ["###", "###"], ["###", "##.", ".#."], ["..##", "####"], ["####", "####", "####"]]:
            known = known_heights(rows)
            for heights, _ in known:
                for corner, change in itertools.product(heights, [-8, -5, -4, -3, -2, -1, 1, 2, 3, 4, 5, 8, 10 ** 30]):
                    self.are_told_rightly(rows, {**heights, corner: heights[corner] + change}, known)

    def test_several_numbers_changed_by_fours(self):
        chance = random.Random(4)
        for rows in small_floors(3, 3)[::7] + small_floors(3, 4)[::41] + [["####", "####", "####"], ["..##", "####"]]:
            known = known_heights(rows)
            for heights, _ in known:
                for _ in range(40):
                    some = chance.sample(sorted(heights), chance.randrange(1, 4))
                    changed = {corner: heights[corner] + chance.choice([-4, 4]) for corner in some}
                    self.are_told_rightly(rows, {**heights, **changed}, known)

    def test_numbers_that_keep_to_the_steps_at_chance(self):
        # Numbers that are come to along steps of the right kind, closed up where the steps happen to fit.
        chance = random.Random(5)
        for rows in [SQUARE, ["###", "###"], ["###", "##.", ".#."], ["#"], ["###"], [".#.", "###"], ["#.#", "###"]]:
            cells = cells_of(rows)
            known = known_heights(rows)
            for _ in range(300):
                numbers = {Floor(rows).corners()[0]: 0}
                while len(numbers) < len(Floor(rows).corners()):
                    for one, other, left, right in sides_of(rows):
                        rises = (left in cells and sum(left) % 2 == 0) or (right in cells and sum(right) % 2 == 1)
                        step = chance.choice([1, -3]) * (1 if rises else -1)
                        if one in numbers:
                            numbers.setdefault(other, numbers[one] + step)
                        elif other in numbers:
                            numbers[one] = numbers[other] - step
                self.are_told_rightly(rows, numbers, known)

    def test_a_piece_that_would_stick_out_over_a_side_with_one_cell_alone(self):
        self.are_none(["#"], {(0, 0): 0, (1, 0): -1, (1, 1): -2, (0, 1): -3})
        self.are_none(["#"], {(0, 0): 0, (1, 0): 3, (1, 1): 2, (0, 1): 1})
        self.are_none([".#"], {(1, 0): 0, (2, 0): 1, (2, 1): 2, (1, 1): 3})
        self.are_none(["##"], {(0, 0): 0, (1, 0): 3, (2, 0): 0, (0, 1): 1, (1, 1): 2, (2, 1): 3})
        self.are_none(["##"], {(0, 0): 0, (1, 0): -1, (2, 0): -4, (0, 1): 1, (1, 1): -2, (2, 1): -3})

    def test_the_first_corner_must_have_nought(self):
        for rows in LAID:
            heights = plain_heights(rows, next(each_laying(cells_of(rows))))
            for change in [-4, -1, 1, 2, 4, 100]:
                self.are_none(rows, {corner: height + change for corner, height in heights.items()})

    def test_all_numbers_the_other_way_round(self):
        for rows in LAID:
            heights = plain_heights(rows, next(each_laying(cells_of(rows))))
            self.are_none(rows, {corner: -height for corner, height in heights.items()})
            self.are_none(rows, {corner: 0 for corner in heights})
            self.are_none(rows, {corner: 4 * height for corner, height in heights.items()})

    def test_corners_that_are_missing_or_too_many(self):
        for rows in LAID:
            heights = plain_heights(rows, next(each_laying(cells_of(rows))))
            for corner in heights:
                fewer = {key: height for key, height in heights.items() if key != corner}
                self.are_none(rows, fewer)
                self.are_none(rows, {**fewer, (corner[0] + 7, corner[1]): heights[corner]})
                self.are_none(rows, {**fewer, None: heights[corner]})
            for key in [(9, 9), (-1, 0), (0, 0, 0), None, "", 0, True, (), ((0, 0),), "(0, 0)", b"00", frozenset(),
                        Floor, (None, 0)]:
                self.are_none(rows, {**heights, key: 0})
            self.are_none(rows, {})

    def test_heights_of_other_floors(self):
        all_heights = [(rows, plain_heights(rows, next(each_laying(cells_of(rows))))) for rows in LAID]
        for (rows, _), (_, heights) in itertools.permutations(all_heights, 2):
            self.are_none(rows, heights)

    def test_keys_that_are_equal_to_corners_are_let_be_as_these(self):
        for alike in [float, complex, lambda number: bool(number) if number < 2 else number]:
            for rows, laying in [(SQUARE, ACROSS), (SQUARE, DOWN), (PAIR, [((0, 0), (1, 0))])]:
                heights = plain_heights(rows, laying)
                numbers = {(alike(x), alike(y)): height for (x, y), height in heights.items()}
                self.are_heights(rows, numbers, laying)
                told = laying_from(Floor(rows), numbers)
                self.assertEqual({type(number) for piece in told for cell in piece for number in cell}, {int})
        self.are_heights(SQUARE, {**RIM_OF_SQUARE, Flatterer((1, 1)): 2}, ACROSS)

    def test_true_and_false_are_no_numbers(self):
        for rows in LAID:
            heights = plain_heights(rows, next(each_laying(cells_of(rows))))
            for corner, height in heights.items():
                if height in (0, 1):
                    self.are_none(rows, {**heights, corner: bool(height)})

    def test_what_is_no_number_at_a_corner(self):
        for thing in no_places() + [2.0, 2 + 0j, "2", b"2", [2], (2,), {2: 2}, Flatterer(2), float("inf")]:
            if type(thing) is int:
                continue
            with self.subTest(kind=type(thing).__name__):
                self.are_none(SQUARE, {**RIM_OF_SQUARE, (1, 1): thing})
                self.are_none(SQUARE, {**RIM_OF_SQUARE, (1, 1): 2, (0, 0): thing})
                self.are_none(SQUARE, {corner: thing for corner in [*RIM_OF_SQUARE, (1, 1)]})

    def test_what_is_no_dict(self):
        heights = {**RIM_OF_SQUARE, (1, 1): 2}
        pairs = list(heights.items())
        for thing in no_places() + [pairs, tuple(pairs), set(pairs), iter(pairs), heights.items(), heights.keys(),
                                    list(heights), ACROSS, str(heights), [heights], (heights,), Flatterer(0), Stubborn,
                                    Floor(SQUARE), zip(heights, heights.values())]:
            with self.subTest(kind=type(thing).__name__):
                self.are_none(SQUARE, thing)

    def test_a_dict_that_holds_itself(self):
        numbers = {**RIM_OF_SQUARE}
        numbers[1, 1] = numbers
        self.are_none(SQUARE, numbers)

    def test_floors_without_a_laying_have_no_heights(self):
        for rows in SHORT:
            corners = Floor(rows).corners()
            self.are_none(rows, {corner: 0 for corner in corners})
            self.are_none(rows, dict(zip(corners, itertools.cycle([0, -1]))))
            self.are_none(rows, {})
            self.are_none(rows, None)

    def test_floors_without_a_laying_and_numbers_that_fit_all_cells_but_one(self):
        for rows in SHORT[:8]:
            for missing in cells_of(rows):
                for pieces in each_laying([cell for cell in cells_of(rows) if cell != missing]):
                    self.are_none(rows, plain_heights(rows, told_order(pieces)))


if __name__ == "__main__":
    unittest.main()
