"""Turns of two pieces that lie side by side, and the ways from one laying to another."""

from turnfloor.errors import NoTurn
from turnfloor.floors import is_place, places_round
from turnfloor.heights import heights_of, lesser_heights
from turnfloor.layings import laying_by, partners_in

TURN_STEP = 4


def turns_by(floor, partners):
    """The inner corners round which just two pieces cover the four cells, in order."""
    found = []
    for corner in floor.inner():
        four = places_round(corner)
        if all([partners[cell] in four for cell in four]):
            found.append(corner)
    return found


def turns_of(floor, pieces):
    """The corners at which there can be a turn, in order; BadLaying for what is no laying of the floor."""
    return turns_by(floor, partners_in(floor, pieces))


def pieces_after(partners, corner):
    """The two pieces that lie round a corner after the turn there."""
    upper_left, upper_right, lower_left, lower_right = places_round(corner)
    if partners[upper_left] == upper_right:
        return [(upper_left, lower_left), (upper_right, lower_right)]
    return [(upper_left, upper_right), (lower_left, lower_right)]


def turned_at(floor, pieces, corner):
    """The laying behind a turn; BadLaying for what is no laying, NoTurn for what is no corner of a turn."""
    partners = partners_in(floor, pieces)
    # Things that are no places must not be compared: (True, 1) would be found as (1, 1).
    if not is_place(corner) or corner not in turns_by(floor, partners):
        raise NoTurn("there is no turn at such a corner")
    turned_pieces = pieces_after(partners, corner)
    for one, other in turned_pieces:
        partners[one] = other
        partners[other] = one
    return laying_by(floor, partners)


def turns_apart(floor, one, other):
    """The fewest turns that lead from one laying to another; BadLaying for what is no laying of the floor."""
    here = heights_of(floor, one)
    there = heights_of(floor, other)
    return sum([abs(here[corner] - there[corner]) for corner in here]) // TURN_STEP


def way_down(heights, goal):
    """The corners of the turns from the heights of one laying down to those of another, one by one."""
    turns = [(height, corner) for corner in heights for height in range(heights[corner], goal[corner], -TURN_STEP)]
    # What is higher than a corner beside it that must come down must come down too, so the highest goes first.
    return [corner for _, corner in sorted(turns, reverse=True)]


def way_between(floor, one, other):
    """The corners of the fewest turns from one laying to another; BadLaying for what is no laying of the floor."""
    here = heights_of(floor, one)
    there = heights_of(floor, other)
    between = lesser_heights(here, there)
    # A turn is undone by another one at its corner, so a way down leads up when it is gone backwards.
    return way_down(here, between) + way_down(there, between)[::-1]
