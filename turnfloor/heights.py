"""Heights of the corners, by which layings are compared."""

from turnfloor.errors import NoHeights
from turnfloor.floors import is_dark
from turnfloor.layings import laying_by, partners_in

RISE = 1
FALL = -3


def sides_of(cell):
    """The four sides of a cell: from which corner each leads to which, and the place beyond it.

    Each one is gone so that the height rises where no piece lies over it.
    """
    x, y = cell
    # Gone round like this the cell is on the right hand, so a light one lets the height rise.
    sides = [
        ((x, y), (x + 1, y), (x, y - 1)),
        ((x + 1, y), (x + 1, y + 1), (x + 1, y)),
        ((x + 1, y + 1), (x, y + 1), (x, y + 1)),
        ((x, y + 1), (x, y), (x - 1, y)),
    ]
    if is_dark(cell):
        return [(end, start, beyond) for start, end, beyond in sides]
    return sides


def steps_by(floor, partners):
    """A dict from each corner to the corners one side away, each with the step of the height."""
    steps = {corner: [] for corner in floor.corners()}
    for cell in floor.cells():
        for start, end, beyond in sides_of(cell):
            step = FALL if partners[cell] == beyond else RISE
            steps[start].append((end, step))
            steps[end].append((start, -step))
    return steps


def heights_of(floor, pieces):
    """A dict from the corners to their heights; BadLaying for whatever is no laying of the floor."""
    steps = steps_by(floor, partners_in(floor, pieces))
    corners = floor.corners()
    heights = {corners[0]: 0}
    waiting = [corners[0]]
    while waiting:
        here = waiting.pop()
        for corner, step in steps[here]:
            if corner not in heights:
                heights[corner] = heights[here] + step
                waiting.append(corner)
    return {corner: heights[corner] for corner in corners}


def numbers_in(floor, thing):
    """A dict from just the floor's corners to whole numbers, or an empty one where a thing is none."""
    corners = floor.corners()
    if type(thing) is not dict or len(thing) != len(corners):
        return {}
    numbers = {}
    for corner in corners:
        # The lookup lets a key that is equal to a corner, such as (0.0, 0), be as this corner.
        number = thing.get(corner)
        if type(number) is not int:
            return {}
        numbers[corner] = number
    return numbers


def side_fits(floor, numbers, side):
    """Whether the step along a side is one that some laying might have there."""
    start, end, beyond = side
    step = numbers[end] - numbers[start]
    return step == RISE or (step == FALL and floor.has(beyond))


def heights_in(floor, thing):
    """The heights of some laying that a thing tells, or an empty dict where it tells none."""
    numbers = numbers_in(floor, thing)
    if not numbers or numbers[floor.corners()[0]] != 0:
        return {}
    # Round a cell the steps come to nothing, so just one of its sides lies within a piece.
    if not all([side_fits(floor, numbers, side) for cell in floor.cells() for side in sides_of(cell)]):
        return {}
    return numbers


def is_heights(floor, numbers):
    """Whether a thing, of any kind, is a dict of the heights of some laying."""
    return len(heights_in(floor, numbers)) > 0


def laying_from(floor, numbers):
    """The laying that has these heights; NoHeights where they are none."""
    heights = heights_in(floor, numbers)
    if not heights:
        raise NoHeights("these are not the heights of any laying of the floor")
    partners = {}
    for cell in floor.cells():
        for start, end, beyond in sides_of(cell):
            if heights[end] - heights[start] == FALL:
                partners[cell] = beyond
    return laying_by(floor, partners)


def lesser_heights(one, other):
    """The lesser one of two heights, corner by corner."""
    return {corner: min(one[corner], other[corner]) for corner in one}


def greater_heights(one, other):
    """The greater one of two heights, corner by corner."""
    return {corner: max(one[corner], other[corner]) for corner in one}
