"""Layings of a floor, or cells that can't all be covered."""

from turnfloor.errors import BadLaying
from turnfloor.floors import in_order, is_dark


def is_piece(floor, thing):
    """Whether a thing is a tuple of two cells of the floor that lie side by side."""
    if type(thing) is not tuple or len(thing) != 2:
        return False
    one, other = thing
    return floor.has(one) and floor.has(other) and other in floor.beside(one)


def partners_in(floor, pieces):
    """A dict from each cell to the other one of its piece; BadLaying where the pieces are no laying."""
    if type(pieces) is not list:
        raise BadLaying("a laying is a list of pieces")
    partners = {}
    for piece in pieces:
        if not is_piece(floor, piece):
            raise BadLaying("a piece is a tuple of two cells of the floor that lie side by side")
        one, other = piece
        if one in partners or other in partners:
            raise BadLaying("no cell is covered twice")
        partners[one] = other
        partners[other] = one
    if len(partners) < len(floor.cells()):
        raise BadLaying("each cell is covered")
    return partners


def laying_by(floor, partners):
    """The laying as it is told, from a dict that leads from each cell to the other one of its piece."""
    laying = []
    covered = {}
    # The cells come in order, so the first one of a piece is met before the other one.
    for cell in floor.cells():
        if cell not in covered:
            laying.append((cell, partners[cell]))
            covered[partners[cell]] = True
    return laying


def told_laying(floor, pieces):
    """The same laying as it is told; BadLaying for whatever is no laying of the floor."""
    return laying_by(floor, partners_in(floor, pieces))


def more_of_one_colour(floor):
    """The dark cells or the light ones, whichever are more."""
    dark = [cell for cell in floor.cells() if is_dark(cell)]
    light = [cell for cell in floor.cells() if not is_dark(cell)]
    return dark if len(dark) >= len(light) else light


def shift_pieces(partners, reached_by, free):
    """Cover a free cell by moving the pieces along the way on which it was reached."""
    while free is not None:
        cell = reached_by[free]
        left_over = partners.get(cell)
        partners[cell] = free
        partners[free] = cell
        free = left_over


def cover_or_short(floor, partners, start):
    """Cover a cell too, and tell an empty list, or else tell cells of its colour that fall short."""
    reached_by = {}
    tried = []
    waiting = [start]
    while waiting:
        cell = waiting.pop()
        tried.append(cell)
        for other in floor.beside(cell):
            if other in reached_by:
                continue
            reached_by[other] = cell
            if other not in partners:
                shift_pieces(partners, reached_by, other)
                return []
            waiting.append(partners[other])
    # All cells beside the tried ones are covered by pieces of these, and start has none.
    return tried


def laid_or_short(floor):
    """("laid", a laying), or ("short", cells) where these have fewer cells beside them than they are."""
    partners = {}
    # Once each cell of the larger colour is covered, none of the other colour is left.
    for cell in more_of_one_colour(floor):
        short = cover_or_short(floor, partners, cell)
        if short:
            return ("short", in_order(short))
    return ("laid", laying_by(floor, partners))
