"""The laying beneath two others or beneath all, and likewise above."""

from turnfloor.errors import NoLaying
from turnfloor.floors import places_beside
from turnfloor.heights import greater_heights, heights_of, laying_from, lesser_heights
from turnfloor.layings import laid_or_short

DOWN = -4
UP = 4


def lower_of(floor, one, other):
    """The laying with the lesser heights of two; BadLaying for what is no laying of the floor."""
    return laying_from(floor, lesser_heights(heights_of(floor, one), heights_of(floor, other)))


def upper_of(floor, one, other):
    """The laying with the greater heights of two; BadLaying for what is no laying of the floor."""
    return laying_from(floor, greater_heights(heights_of(floor, one), heights_of(floor, other)))


def some_heights(floor):
    """The heights of any laying; NoLaying where the floor has none."""
    word, told = laid_or_short(floor)
    if word == "short":
        raise NoLaying("the floor has no laying")
    return heights_of(floor, told)


def can_move(heights, corner, change):
    """Whether a turn changes the height of an inner corner so."""
    # Two of the four steps from it are 1 or -3, two -1 or 3: all have one sign just where there is a turn.
    return all([(heights[place] - heights[corner]) * change > 0 for place in places_beside(corner)])


def farthest_laying(floor, change):
    """The laying that is come to by turns of one kind, as long as there is one."""
    heights = some_heights(floor)
    inner = floor.inner()
    corners = [corner for corner in inner if can_move(heights, corner, change)]
    while corners:
        # No two of these lie beside each other, so a turn at one leaves the others as they are.
        for corner in corners:
            heights[corner] += change
        corners = [corner for corner in inner if can_move(heights, corner, change)]
    return laying_from(floor, heights)


def least_laying(floor):
    """The laying that lies beneath all; NoLaying where the floor has none."""
    return farthest_laying(floor, DOWN)


def greatest_laying(floor):
    """The laying that lies above all; NoLaying where the floor has none."""
    return farthest_laying(floor, UP)
