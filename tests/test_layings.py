import itertools
import random
import unittest

from tests.shapes import (
    LAID, SHORT, Flatterer, Stubborn, are_short, cells_of, grown_floors, is_told_laying, layings_of, no_places,
    small_floors,
)
from turnfloor.errors import BadLaying
from turnfloor.floors import Floor
from turnfloor.layings import laid_or_short, told_laying

SQUARE = ["##", "##"]
ACROSS = [((0, 0), (1, 0)), ((0, 1), (1, 1))]
DOWN = [((0, 0), (0, 1)), ((1, 0), (1, 1))]


def all_ways_to_hand_in(laying):
    """Each order of the pieces, with each order of the cells in each piece."""
    turned = itertools.product(*[(piece, piece[::-1]) for piece in laying])
    return [list(pieces) for one in turned for pieces in itertools.permutations(one)]


class ToldLayingTest(unittest.TestCase):
    def refused(self, rows, pieces):
        with self.assertRaises(BadLaying) as caught:
            told_laying(Floor(rows), pieces)
        self.assertIs(type(caught.exception), BadLaying)

    def test_a_laying_as_it_is_told_stays_so(self):
        self.assertEqual(told_laying(Floor(SQUARE), list(ACROSS)), ACROSS)
        self.assertEqual(told_laying(Floor(SQUARE), list(DOWN)), DOWN)

    def test_pieces_and_cells_may_stand_in_any_order(self):
        for rows in [["##"], ["#", "#"], SQUARE, ["###", "###"], ["###", "##.", ".#."], ["####", "####"],
                     ["..##", "####"]]:
            for laying in layings_of(cells_of(rows)):
                for pieces in all_ways_to_hand_in(laying):
                    self.assertEqual(told_laying(Floor(rows), pieces), laying)

    def test_pieces_are_told_by_y_then_by_x_of_their_first_cells(self):
        rows = ["###", "##.", ".#."]
        laying = [((0, 0), (0, 1)), ((1, 0), (2, 0)), ((1, 1), (1, 2))]
        self.assertEqual(told_laying(Floor(rows), laying[::-1]), laying)
        rows = ["..#", "###"]
        laying = [((2, 0), (2, 1)), ((0, 1), (1, 1))]
        self.assertEqual(told_laying(Floor(rows), laying), laying)
        self.assertEqual(told_laying(Floor(rows), [((1, 1), (0, 1)), ((2, 1), (2, 0))]), laying)

    def test_layings_of_large_floors_in_mixed_order(self):
        chance = random.Random(3)
        for rows in LAID:
            laying = laid_or_short(Floor(rows))[1]
            for _ in range(5):
                pieces = [piece[::chance.choice([1, -1])] for piece in laying]
                chance.shuffle(pieces)
                told = told_laying(Floor(rows), pieces)
                self.assertTrue(is_told_laying(rows, told))
                self.assertEqual({frozenset(piece) for piece in told}, {frozenset(piece) for piece in pieces})

    def test_it_tells_a_list_of_tuples(self):
        told = told_laying(Floor(SQUARE), list(DOWN))
        self.assertIs(type(told), list)
        self.assertEqual([type(piece) for piece in told], [tuple, tuple])
        self.assertEqual([type(cell) for piece in told for cell in piece], [tuple] * 4)

    def test_the_same_in_another_list_and_nothing_is_changed(self):
        pieces = [((1, 1), (1, 0)), ((0, 1), (0, 0))]
        told = told_laying(Floor(SQUARE), pieces)
        self.assertEqual(pieces, [((1, 1), (1, 0)), ((0, 1), (0, 0))])
        self.assertIsNot(told, pieces)
        laying = list(DOWN)
        self.assertIsNot(told_laying(Floor(SQUARE), laying), laying)

    def test_pieces_left_out_are_refused(self):
        for rows in LAID:
            laying = laid_or_short(Floor(rows))[1]
            self.refused(rows, [])
            for at in range(len(laying)):
                self.refused(rows, laying[:at] + laying[at + 1:])

    def test_pieces_told_twice_are_refused(self):
        for rows in LAID:
            laying = laid_or_short(Floor(rows))[1]
            for piece in laying:
                self.refused(rows, laying + [piece])
                self.refused(rows, [piece[::-1]] + laying)
                self.refused(rows, [piece] * len(laying) if len(laying) > 1 else [piece] * 2)

    def test_pieces_over_covered_cells_are_refused(self):
        self.refused(SQUARE, [((0, 0), (1, 0)), ((1, 0), (1, 1))])
        self.refused(SQUARE, [((0, 0), (1, 0)), ((0, 1), (0, 0))])
        self.refused(SQUARE, [((0, 0), (1, 0)), ((0, 1), (1, 1)), ((0, 0), (0, 1))])
        self.refused(["####"], [((0, 0), (1, 0)), ((1, 0), (2, 0)), ((2, 0), (3, 0))])
        self.refused(["####"], [((0, 0), (1, 0)), ((1, 0), (2, 0))])
        self.refused(["###"], [((0, 0), (1, 0)), ((1, 0), (2, 0))])
        self.refused(["###"], [((0, 0), (1, 0)), ((2, 0), (1, 0))])

    def test_each_set_of_pieces_of_small_floors_is_told_rightly(self):
        for rows in [SQUARE, ["###", "###"], ["####"], ["##", "#."], ["###", "##.", ".#."], [".#.", "###"]]:
            cells = cells_of(rows)
            layings = layings_of(cells)
            near = [((x, y), other) for x, y in cells for other in [(x + 1, y), (x, y + 1)] if other in cells]
            for many in range(len(near) + 1):
                for chosen in itertools.combinations(near, many):
                    if list(chosen) in layings:
                        self.assertEqual(told_laying(Floor(rows), list(chosen)), list(chosen))
                    else:
                        self.refused(rows, list(chosen))

    def test_cells_that_lie_apart_are_refused(self):
        self.refused(SQUARE, [((0, 0), (1, 1)), ((1, 0), (0, 1))])
        self.refused(["####"], [((0, 0), (2, 0)), ((1, 0), (3, 0))])
        self.refused(["####"], [((0, 0), (3, 0)), ((1, 0), (2, 0))])
        self.refused(["#", "#", "#", "#"], [((0, 0), (0, 3)), ((0, 1), (0, 2))])
        self.refused(["###", "###"], [((2, 0), (0, 1)), ((0, 0), (1, 0)), ((1, 1), (2, 1))])

    def test_a_cell_twice_in_a_piece_is_refused(self):
        self.refused(["##"], [((0, 0), (0, 0))])
        self.refused(["##"], [((0, 0), (0, 0)), ((1, 0), (1, 0))])
        self.refused(["#"], [((0, 0), (0, 0))])
        self.refused(["#"], [((0, 0),)])

    def test_cells_that_the_floor_does_not_have_are_refused(self):
        self.refused(["#"], [((0, 0), (1, 0))])
        self.refused(["#"], [((0, 0), (0, -1))])
        self.refused(["##"], [((0, 0), (1, 0)), ((0, 1), (1, 1))])
        self.refused(["##"], [((1, 0), (2, 0)), ((0, 0), (-1, 0))])
        self.refused(["#.", "##"], [((0, 0), (1, 0)), ((0, 1), (1, 1))])
        self.refused(["##", "##", ".#"], [((0, 0), (1, 0)), ((0, 1), (1, 1)), ((1, 2), (0, 2))])

    def test_pieces_of_one_or_three_cells_are_refused(self):
        self.refused(["##"], [((0, 0),)])
        self.refused(["##"], [((0, 0),), ((1, 0),)])
        self.refused(["###"], [((0, 0), (1, 0), (2, 0))])
        self.refused(["##"], [((0, 0), (1, 0), (0, 0))])
        self.refused(["##"], [((0, 0), (1, 0), None)])
        self.refused(["##"], [((0, 0), (1, 0)), ()])
        self.refused(["####"], [((0, 0), (1, 0), (2, 0), (3, 0))])

    def test_a_floor_without_a_laying_has_none(self):
        self.refused(["#"], [])
        self.refused(["###"], [((0, 0), (1, 0))])
        self.refused(["#..#", "####", "#..#"], [((0, 0), (0, 1)), ((3, 1), (3, 2)), ((1, 1), (2, 1))])

    def test_what_is_no_list_is_refused(self):
        piece = ((0, 0), (1, 0))
        for thing in no_places() + [(piece,), piece, {piece}, frozenset([piece]), {piece: True}, {0: piece},
                                    iter([piece]), (one for one in [piece]), dict([piece]), "((0, 0), (1, 0))"]:
            with self.subTest(kind=type(thing).__name__):
                self.refused(["##"], thing)

    def test_what_is_no_piece_is_refused(self):
        piece = ((0, 0), (1, 0))
        for thing in no_places() + [[(0, 0), (1, 0)], [[0, 0], [1, 0]], {(0, 0), (1, 0)}, {(0, 0): (1, 0)}, (piece,),
                                    [piece], iter(piece), (0, 0, 1, 0), "00", Flatterer(piece)]:
            with self.subTest(kind=type(thing).__name__):
                self.refused(["##"], [thing])
                self.refused(["##"], [piece, thing])
                self.refused(["##"], [thing, piece])

    def test_what_is_no_cell_in_a_piece_is_refused(self):
        for thing in no_places() + [[1, 0], (True, 0), (1, False), (True, False), (1.0, 0), (1, 0.0), (1, 0, 0), "10",
                                    (1, 1), (-1, 0), Flatterer((1, 0)), (Flatterer(1), 0), (1, Stubborn())]:
            with self.subTest(kind=type(thing).__name__):
                self.refused(["##"], [((0, 0), thing)])
                self.refused(["##"], [(thing, (0, 0))])
                self.refused(["##"], [(thing, (1, 0))])
                self.refused(["##"], [(thing, thing)])

    def test_true_and_false_are_no_numbers(self):
        for cell in [(True, 0), (1, False), (True, False)]:
            self.refused(["##"], [((0, 0), cell)])
            self.refused(["##"], [(cell, (0, 0))])
        self.refused(SQUARE, [((0, 0), (1, 0)), ((0, True), (1, 1))])

    def test_a_list_that_holds_itself_is_refused(self):
        pieces = []
        pieces.append(pieces)
        self.refused(["##"], pieces)
        self.refused(["##"], [(pieces, pieces)])


class LaidOrShortTest(unittest.TestCase):
    def agrees(self, rows, can_be_laid):
        answer = laid_or_short(Floor(rows))
        self.assertIs(type(answer), tuple)
        word, told = answer
        if can_be_laid:
            self.assertEqual(word, "laid")
            self.assertTrue(is_told_laying(rows, told))
            self.assertEqual(told_laying(Floor(rows), told), told)
        else:
            self.assertEqual(word, "short")
            self.assertTrue(are_short(rows, told))

    def test_floors_that_can_be_laid(self):
        for rows in LAID:
            with self.subTest(rows=rows):
                self.agrees(rows, True)

    def test_floors_that_can_not(self):
        for rows in SHORT:
            with self.subTest(rows=rows):
                self.agrees(rows, False)

    def test_one_way_only(self):
        self.assertEqual(laid_or_short(Floor(["##"])), ("laid", [((0, 0), (1, 0))]))
        self.assertEqual(laid_or_short(Floor(["#", "#"])), ("laid", [((0, 0), (0, 1))]))
        self.assertEqual(laid_or_short(Floor(["..#", "###"])), ("laid", [((2, 0), (2, 1)), ((0, 1), (1, 1))]))
        self.assertEqual(laid_or_short(Floor(["#"])), ("short", [(0, 0)]))
        self.assertEqual(laid_or_short(Floor(["...", "..#"])), ("short", [(2, 1)]))
        self.assertEqual(laid_or_short(Floor(["###"])), ("short", [(0, 0), (2, 0)]))
        self.assertEqual(laid_or_short(Floor([".###"])), ("short", [(1, 0), (3, 0)]))

    def test_each_small_floor(self):
        for width, height in [(1, 6), (6, 1), (2, 4), (4, 2), (3, 3), (3, 4), (4, 3)]:
            for rows in small_floors(width, height):
                with self.subTest(rows=rows):
                    self.agrees(rows, bool(layings_of(cells_of(rows))))

    def test_floors_with_as_many_dark_cells_as_light_ones_that_can_not_be_laid(self):
        for rows in [["#..#", "####", "#..#"], [".#..", "####", "..#."], ["..#.", "####", ".#.."],
                     [".###", "..#.", "..#.", ".###"], ["#..#..", "######", "#..#.."]]:
            with self.subTest(rows=rows):
                self.agrees(rows, False)

    def test_large_floors(self):
        # Both answers prove themselves, so nothing else need tell which one is right.
        for rows in grown_floors(300, 7):
            with self.subTest(rows=rows):
                self.agrees(rows, laid_or_short(Floor(rows))[0] == "laid")

    def test_asked_again_it_tells_the_same(self):
        for rows in LAID + SHORT:
            floor = Floor(rows)
            self.assertEqual(laid_or_short(floor), laid_or_short(floor))


if __name__ == "__main__":
    unittest.main()
