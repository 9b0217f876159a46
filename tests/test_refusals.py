"""Point 4 over the whole program: what is no laying of the floor is refused ahead of all else."""

import unittest

from tests.shapes import LAID, SHORT, Stubborn, all_layings, cells_of, each_laying, no_layings, no_places
from turnfloor.beneath import lower_of, upper_of
from turnfloor.errors import BadLaying, NoTurn
from turnfloor.floors import Floor
from turnfloor.heights import heights_of
from turnfloor.layings import told_laying
from turnfloor.texts import shown_text
from turnfloor.turning import turned_at, turns_apart, turns_of, way_between

SQUARE = ["##", "##"]
OF_ONE = [told_laying, heights_of, turns_of, shown_text]
OF_TWO = [turns_apart, way_between, lower_of, upper_of]


class BadLayingTest(unittest.TestCase):
    def refused(self, call, *handed):
        with self.assertRaises(BadLaying) as caught:
            call(*handed)
        self.assertIs(type(caught.exception), BadLaying)

    def test_what_is_no_laying(self):
        for rows in LAID:
            for thing in no_layings(rows):
                for call in OF_ONE:
                    with self.subTest(rows=rows, call=call.__name__, kind=type(thing).__name__):
                        self.refused(call, Floor(rows), thing)

    def test_what_is_no_laying_as_one_of_two(self):
        for rows in LAID:
            laying = next(each_laying(cells_of(rows)))
            for thing in no_layings(rows):
                for call in OF_TWO:
                    with self.subTest(rows=rows, call=call.__name__, kind=type(thing).__name__):
                        self.refused(call, Floor(rows), thing, laying)
                        self.refused(call, Floor(rows), laying, thing)
                        self.refused(call, Floor(rows), thing, thing)

    def test_what_is_no_laying_comes_ahead_of_what_is_no_corner(self):
        for rows in [["##"], SQUARE, ["######"] * 6]:
            for thing in no_layings(rows):
                for corner in [(1, 1), (0, 0), None, (True, 1), Stubborn()]:
                    self.refused(turned_at, Floor(rows), thing, corner)

    def test_layings_of_other_floors(self):
        for rows in LAID:
            for other in LAID:
                if other == rows:
                    continue
                laying = next(each_laying(cells_of(rows)))
                foreign = next(each_laying(cells_of(other)))
                for call in OF_ONE:
                    self.refused(call, Floor(rows), foreign)
                for call in OF_TWO:
                    self.refused(call, Floor(rows), laying, foreign)
                    self.refused(call, Floor(rows), foreign, laying)
                self.refused(turned_at, Floor(rows), foreign, (1, 1))

    def test_floors_without_a_laying(self):
        for rows in SHORT:
            for thing in [[], [((0, 0), (1, 0))], None] + no_places()[:5]:
                for call in OF_ONE:
                    self.refused(call, Floor(rows), thing)
                for call in OF_TWO:
                    self.refused(call, Floor(rows), thing, thing)
                self.refused(turned_at, Floor(rows), thing, (1, 1))

    def test_cells_covered_twice_or_not_at_all(self):
        for pieces in [[((0, 0), (1, 0))], [((0, 0), (1, 0))] * 2, [((0, 0), (1, 0)), ((0, 0), (0, 1))],
                       [((0, 0), (1, 0)), ((0, 1), (1, 1)), ((0, 0), (0, 1))], [((0, 0), (1, 1)), ((1, 0), (0, 1))]]:
            for call in OF_ONE:
                self.refused(call, Floor(SQUARE), pieces)
            for call in OF_TWO:
                for laying in all_layings(SQUARE):
                    self.refused(call, Floor(SQUARE), laying, pieces)
                    self.refused(call, Floor(SQUARE), pieces, laying)
            self.refused(turned_at, Floor(SQUARE), pieces, (1, 1))

    def test_true_and_false_are_no_numbers(self):
        for cell in [(True, 0), (1, False), (True, False)]:
            pieces = [((0, 0), cell), ((0, 1), (1, 1))]
            for call in OF_ONE:
                self.refused(call, Floor(SQUARE), pieces)
            for call in OF_TWO:
                self.refused(call, Floor(SQUARE), all_layings(SQUARE)[0], pieces)
                self.refused(call, Floor(SQUARE), pieces, all_layings(SQUARE)[0])
            self.refused(turned_at, Floor(SQUARE), pieces, (1, 1))

    def test_a_laying_that_is_none_is_refused_though_both_are_the_same_thing(self):
        pieces = [((0, 0), (1, 0))]
        for call in OF_TWO:
            self.refused(call, Floor(SQUARE), pieces, pieces)

    def test_a_laying_is_not_refused(self):
        for rows in LAID:
            laying = next(each_laying(cells_of(rows)))
            for call in OF_ONE:
                call(Floor(rows), laying)
            for call in OF_TWO:
                call(Floor(rows), laying, laying)
            with self.assertRaises(NoTurn):
                turned_at(Floor(rows), laying, (0, 0))


if __name__ == "__main__":
    unittest.main()
