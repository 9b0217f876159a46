"""Floors for the tests, and plain ways to work out what the program must tell of them."""

import itertools
import random

# Floors that can be laid, among them ones that wind, fork or hold a bay.
LAID = [
    ["##"],
    ["#", "#"],
    ["######"],
    ["#", "#", "#", "#", "#", "#"],
    ["##", "##"],
    ["###", "##.", ".#."],
    ["###", "###", "#.#", "#.#"],
    ["####", "#..#", "#..#", "#..#"],
    ["###...", "#.##..", "#..##.", "#...##", "......", "......"],
    ["..##", "..##", "####", "####"],
    ["######", ".....#", "######", "#.....", "######", "....##"],
    ["#.#.#.", "######", ".#.#.#"],
    ["####", "#...", "####", "...#", "####"],
    [".##..", ".##..", "#####", "#####", "..##."],
    ["######", "#....#", "#.##.#", "#.#..#", "#.####", "......"],
    ["######", "######", "######", "######", "######", "######"],
]

# Floors that can't, of unlike and of like numbers of dark and light cells.
SHORT = [
    ["#"],
    ["###"],
    ["#", "#", "#"],
    [".#.", "###", ".#."],
    ["###", "###", "###"],
    [".#", "##", ".#"],
    ["#.#", "###", "#.#"],
    [".###", "..#.", "..#.", ".###"],
    ["#..#..", "######", "#..#.."],
    ["..#...", "######", "..#..."],
    [".#....", "######", ".#..#.", "....#."],
    ["######", "######", "######", "######", "######", "#####."],
    [".#####", "######", "######", "######", "######", "#####."],
]

PARTED = [
    ["#.#"],
    ["#", ".", "#"],
    ["#.", ".#"],
    [".#", "#."],
    ["##..", "##..", "..##", "..##"],
    ["######", "......", "######"],
    ["#.....", "......", "......", "......", "......", ".....#"],
]

HOLED = [
    ["###", "#.#", "###"],
    ["####", "#..#", "####"],
    ["#####", "#.#.#", "#####"],
    ["######", "#....#", "#.####", "#.#..#", "#.####", "######"],
    # The hole is joined to what lies around at a corner only.
    [".##", "#.#", "###"],
    ["##.", "#.#", "###"],
    ["###", "#.#", ".##"],
    ["###", "#.#", "##."],
    # Two holes that touch at a corner only.
    ["####", "#.##", "##.#", "####"],
]


def cells_of(rows):
    return [(x, y) for y in range(len(rows)) for x in range(len(rows[y])) if rows[y][x] == "#"]


def touch(one, other):
    return abs(one[0] - other[0]) + abs(one[1] - other[1]) == 1


def parts(places):
    """How many lots of places there are that hang together."""
    left = set(places)
    many = 0
    while left:
        many += 1
        edge = {left.pop()}
        while edge:
            edge = {place for place in left if any(touch(place, other) for other in edge)}
            left -= edge
    return many


def kind_of(rows):
    """What a floor's rows are: "empty", "parted", "holed" or "floor"."""
    cells = cells_of(rows)
    if not cells:
        return "empty"
    if parts(cells) > 1:
        return "parted"
    width, height = len(rows[0]) + 2, len(rows) + 2
    around = set(itertools.product(range(-1, width - 1), range(-1, height - 1)))
    return "holed" if parts(around - set(cells)) > 1 else "floor"


def grids(width, height):
    """All lists of rows of one size."""
    texts = ["".join(signs) for signs in itertools.product("#.", repeat=width)]
    return [list(rows) for rows in itertools.product(texts, repeat=height)]


def small_floors(width, height):
    return [rows for rows in grids(width, height) if kind_of(rows) == "floor"]


def grown_floors(many, seed):
    """Large floors, the same ones each time, that grew from one cell."""
    chance = random.Random(seed)
    floors = []
    while len(floors) < many:
        cells = {(chance.randrange(6), chance.randrange(6))}
        goal = chance.randrange(12, 34)
        while len(cells) < goal:
            x, y = chance.choice(sorted(cells))
            cells.add(chance.choice([(x, max(y - 1, 0)), (max(x - 1, 0), y), (min(x + 1, 5), y), (x, min(y + 1, 5))]))
        rows = ["".join("#" if (x, y) in cells else "." for x in range(6)) for y in range(6)]
        if kind_of(rows) == "floor":
            floors.append(rows)
    return floors


def each_laying(cells):
    """One by one all layings of some cells, that stand in order, as they are told."""
    if not cells:
        yield []
        return
    x, y = cells[0]
    for other in [(x + 1, y), (x, y + 1)]:
        if other in cells:
            rest = [cell for cell in cells if cell not in ((x, y), other)]
            for laying in each_laying(rest):
                yield [((x, y), other)] + laying


def layings_of(cells):
    return list(each_laying(cells))


def is_told_laying(rows, pieces):
    """Whether pieces are a laying of a floor, and stand as they are told."""
    if type(pieces) is not list or any(type(piece) is not tuple or len(piece) != 2 for piece in pieces):
        return False
    covered = [cell for piece in pieces for cell in piece]
    firsts = [one for one, _ in pieces]
    return (
        sorted(covered) == sorted(cells_of(rows))
        and all(other in ((x + 1, y), (x, y + 1)) for (x, y), other in pieces)
        and firsts == sorted(firsts, key=lambda cell: (cell[1], cell[0]))
    )


def all_layings(rows):
    return layings_of(cells_of(rows))


def sides_of(rows):
    """All sides of cells, to the right or down, each with the places on the left hand and on the right."""
    cells = cells_of(rows)
    sides = []
    for x, y in itertools.product(range(7), repeat=2):
        for other, left, right in [((x + 1, y), (x, y - 1), (x, y)), ((x, y + 1), (x, y), (x - 1, y))]:
            if left in cells or right in cells:
                sides.append(((x, y), other, left, right))
    return sides


def steps_of(rows, laying):
    """The step of the height along each side, to the right or down, word by word as point 6 tells it."""
    cells = cells_of(rows)
    steps = {}
    for one, other, left, right in sides_of(rows):
        rises = (left in cells and sum(left) % 2 == 0) or (right in cells and sum(right) % 2 == 1)
        within = (left, right) in laying or (right, left) in laying
        step = -3 if within else 1
        steps[one, other] = step if rises else -step
    return steps


def plain_heights(rows, laying):
    """The heights of a laying as it is told, found by going along sides until no corner is left out."""
    steps = steps_of(rows, laying)
    heights = {cells_of(rows)[0]: 0}
    grown = True
    while grown:
        grown = False
        for (one, other), step in steps.items():
            if one in heights and other not in heights:
                heights[other] = heights[one] + step
                grown = True
            elif other in heights and one not in heights:
                heights[one] = heights[other] - step
                grown = True
    return heights


def told_order(pieces):
    """A laying as it is told, of pieces whose first cells stand first."""
    return sorted(pieces, key=lambda piece: (piece[0][1], piece[0][0]))


def plain_turns(laying):
    """A dict from each corner of a turn, in order, to the laying behind it."""
    turns = {}
    for y, x in itertools.product(range(1, 6), repeat=2):
        across = [((x - 1, y - 1), (x, y - 1)), ((x - 1, y), (x, y))]
        down = [((x - 1, y - 1), (x - 1, y)), ((x, y - 1), (x, y))]
        for there, behind in [(across, down), (down, across)]:
            if all(piece in laying for piece in there):
                turns[x, y] = told_order([piece for piece in laying if piece not in there] + behind)
    return turns


def turns_from(laying):
    """The fewest turns from one laying to each that is come to, found by trying all of them."""
    many = {tuple(laying): 0}
    waiting = [laying]
    for here in waiting:
        for behind in plain_turns(here).values():
            if tuple(behind) not in many:
                many[tuple(behind)] = many[tuple(here)] + 1
                waiting.append(behind)
    return many


def are_short(rows, short):
    """Whether cells stand in order, are of one colour, and have too few cells beside them."""
    cells = cells_of(rows)
    if type(short) is not list or short != [cell for cell in cells if cell in short]:
        return False
    around = [cell for cell in cells if any(touch(cell, other) for other in short)]
    return len({(x + y) % 2 for x, y in short}) == 1 and len(around) < len(short)


class Stubborn:
    """A thing that can't be compared, counted, looked through or looked up."""

    def refuse(self, *_):
        raise RuntimeError("this thing was asked what nobody may ask of it")

    __eq__ = __ne__ = __lt__ = __gt__ = __le__ = __ge__ = __hash__ = __len__ = __iter__ = __getitem__ = refuse
    __bool__ = __contains__ = __add__ = __radd__ = __sub__ = __rsub__ = __mod__ = __index__ = __int__ = refuse


class Flatterer:
    """A thing that says of itself that it is equal to anything, as a cell (0, 0) or a number 0."""

    def __init__(self, like):
        self.like = like

    def __eq__(self, other):
        return True

    def __ne__(self, other):
        return False

    def __hash__(self):
        return hash(self.like)


def no_places():
    """Things that are no tuples of two whole numbers."""
    return [
        None, True, False, 0, 1, -1, 1.5, float("nan"), 2 + 1j, "", "#", "00", "(0, 0)", b"", b"00", bytearray(2),
        (), (0,), (0, 0, 0), ((0, 0),), ((0, 0), (0, 0)), [], [0, 0], [(0, 0)], {}, {0: 0, 1: 0}, {0, 1}, set(),
        frozenset([0, 1]), range(2), iter([0, 0]), zip([0], [0]), object(), object, len, lambda: 0, ..., NotImplemented,
        (True, 0), (0, True), (False, 0), (0, False), (False, False), (0.0, 0), (0, 0.0), (0.0, 0.0), (0j, 0), (0.5, 0),
        (None, 0), (0, None), ("0", "0"), (b"0", 0), ([0], 0), (0, [0]), ({}, 0), (0, set()), ((0,), 0), (0, (0,)),
        (float("nan"), 0), (0, float("inf")), Stubborn(), (Stubborn(), 0), (0, Stubborn()), (Stubborn(), Stubborn()),
        Flatterer((0, 0)), (Flatterer(0), 0), (0, Flatterer(0)), (Flatterer(0), Flatterer(0)),
    ]


def no_layings(rows):
    """Things that are no laying of a floor, of which the first cell lies in one of the first rows or columns."""
    laying = next(each_laying(cells_of(rows)))
    one, other = laying[0]
    rest = laying[1:]
    true_or_false = [(bool(number) if number < 2 else number) for number in one]
    broken = [
        [], rest, laying + [laying[0]], [laying[0]] + laying, laying + [None], [None] + laying, rest + [None],
        rest + [(one, one)], rest + [(one,)], rest + [(one, other, one)], rest + [[one, other]], rest + [()],
        rest + [(one, (-1, -1))], rest + [(list(one), other)], rest + [(one, list(other))],
        rest + [(tuple(float(number) for number in one), other)], rest + [(tuple(true_or_false), other)],
        rest + [(one, Flatterer(other))], rest + [Flatterer((one, other))], rest + [(one, Stubborn())],
        rest + [Stubborn()], rest + [one, other], [laying], (laying,), tuple(laying), set(laying), frozenset(laying),
        dict(laying), iter(laying), str(laying), Flatterer(laying[0]), "\n".join(rows), rows,
    ]
    return no_places() + broken
