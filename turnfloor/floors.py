"""Floors: their cells, and the corners of these."""

from turnfloor.errors import BadFloor, Holed, NoCell, Parted

LONGEST = 6
CELL_SIGN = "#"
SIGNS = "#."


def is_dark(cell):
    """Whether a cell is dark, else it is light."""
    x, y = cell
    return (x + y) % 2 == 0


def is_place(thing):
    """Whether a thing is a tuple of two whole numbers."""
    # isinstance would let True and False pass as numbers.
    if type(thing) is not tuple or len(thing) != 2:
        return False
    x, y = thing
    return type(x) is int and type(y) is int


def in_order(places):
    """The places of a list, by y, then by x."""
    return sorted(places, key=lambda place: (place[1], place[0]))


def places_beside(place):
    """The four places beside one, in order."""
    x, y = place
    return [(x, y - 1), (x - 1, y), (x + 1, y), (x, y + 1)]


def corners_of(cell):
    """The four corners of a cell, in order."""
    x, y = cell
    return [(x, y), (x + 1, y), (x, y + 1), (x + 1, y + 1)]


def places_round(corner):
    """The four places that have a corner in common, in order."""
    x, y = corner
    return [(x - 1, y - 1), (x, y - 1), (x - 1, y), (x, y)]


def is_row(thing):
    """Whether a thing is a text of the two signs that is neither empty nor too long."""
    if type(thing) is not str or not 1 <= len(thing) <= LONGEST:
        return False
    return all([sign in SIGNS for sign in thing])


def are_rows(thing):
    """Whether a thing is a list of texts by which a floor can be told."""
    if type(thing) is not list or not 1 <= len(thing) <= LONGEST:
        return False
    if not all([is_row(row) for row in thing]):
        return False
    return all([len(row) == len(thing[0]) for row in thing])


def cells_in(rows):
    """The cells that the rows tell, in order."""
    return [(x, y) for y, row in enumerate(rows) for x, sign in enumerate(row) if sign == CELL_SIGN]


def hang_together(places):
    """Whether one comes from each place of a list to each other one, side by side."""
    among = {place: True for place in places}
    reached = {places[0]: True}
    waiting = [places[0]]
    while waiting:
        here = waiting.pop()
        for place in places_beside(here):
            if place in among and place not in reached:
                reached[place] = True
                waiting.append(place)
    return len(reached) == len(among)


def places_without_cell(rows, cells):
    """The places of the rows that are no cells, and a border of places that lie around the rows."""
    taken = {cell: True for cell in cells}
    width = len(rows[0])
    height = len(rows)
    return [(x, y) for y in range(-1, height + 1) for x in range(-1, width + 1) if (x, y) not in taken]


class Floor:
    """A floor: cells that hang together and have no hole among them."""

    def __init__(self, rows):
        if not are_rows(rows):
            raise BadFloor("a floor is a list of 1 to 6 texts of one length, from 1 to 6, of # and .")
        cells = cells_in(rows)
        if not cells:
            raise BadFloor("a floor has one cell at least")
        if not hang_together(cells):
            raise Parted("the cells of a floor hang together")
        if not hang_together(places_without_cell(rows, cells)):
            raise Holed("a floor has no holes")
        self._rows = list(rows)
        self._cells = cells
        self._known = {cell: True for cell in cells}

    def rows(self):
        """The texts of the floor, the uppermost one first."""
        return list(self._rows)

    def has(self, place):
        """Whether a thing, of any kind, is a cell of the floor."""
        return is_place(place) and place in self._known

    def cells(self):
        """All cells, in order."""
        return list(self._cells)

    def beside(self, cell):
        """The cells beside a cell, in order."""
        if not self.has(cell):
            raise NoCell("there is no such cell")
        return [place for place in places_beside(cell) if place in self._known]

    def corners(self):
        """The four corners of each cell, in order."""
        found = {corner: True for cell in self._cells for corner in corners_of(cell)}
        return in_order(list(found))

    def inner(self):
        """The corners round which four cells lie, in order."""
        return [corner for corner in self.corners() if self._is_inner(corner)]

    def _is_inner(self, corner):
        return all([place in self._known for place in places_round(corner)])
