"""Texts that tell layings."""

from turnfloor.errors import BadFloor, BadLaying, BadText, Holed, Parted
from turnfloor.floors import Floor
from turnfloor.layings import partners_in, told_laying

LINE_END = "\n"
NO_CELL = "."
TO_THE_RIGHT = ">"
TO_THE_LEFT = "<"
BENEATH = "v"
ABOVE = "^"


def sign_at(place, partners):
    """The sign of a place: where the other cell of its piece lies, or that it is no cell."""
    if place not in partners:
        return NO_CELL
    x, y = place
    other = partners[place]
    if other == (x + 1, y):
        return TO_THE_RIGHT
    if other == (x - 1, y):
        return TO_THE_LEFT
    return BENEATH if other == (x, y + 1) else ABOVE


def shown_text(floor, pieces):
    """The text of a laying; BadLaying for whatever is no laying of the floor."""
    partners = partners_in(floor, pieces)
    lines = []
    for y, row in enumerate(floor.rows()):
        lines.append("".join([sign_at((x, y), partners) for x in range(len(row))]))
    return LINE_END.join(lines)


def row_in(line):
    """The text by which a floor is told that has a cell at each sign but the dots."""
    return "".join([NO_CELL if sign == NO_CELL else "#" for sign in line])


def pieces_in(lines):
    """The pieces whose first cells are told by their signs, in order."""
    pieces = []
    for y, line in enumerate(lines):
        for x, sign in enumerate(line):
            if sign == TO_THE_RIGHT:
                pieces.append(((x, y), (x + 1, y)))
            elif sign == BENEATH:
                pieces.append(((x, y), (x, y + 1)))
    return pieces


def read_text(text):
    """The rows of the floor, and the laying as it is told; BadText for what is no text of a laying of a floor."""
    if type(text) is not str:
        raise BadText("what is no text tells no laying")
    lines = text.split(LINE_END)
    try:
        floor = Floor([row_in(line) for line in lines])
        laying = told_laying(floor, pieces_in(lines))
    except (BadFloor, Parted, Holed, BadLaying):
        raise BadText("the text tells no floor, or no laying of it") from None
    # The pieces were told by one sign each, so only writing them proves the other ones.
    if shown_text(floor, laying) != text:
        raise BadText("some signs of the text tell no piece")
    return (floor.rows(), laying)
