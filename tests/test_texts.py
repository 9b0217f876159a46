import itertools
import unittest

from tests.shapes import (
    LAID, Flatterer, Stubborn, all_layings, cells_of, each_laying, grown_floors, kind_of, no_places, small_floors,
)
from turnfloor.errors import BadText
from turnfloor.floors import Floor
from turnfloor.texts import read_text, shown_text

LARGEST = ["######"] * 6


def plain_text(rows, laying):
    signs = [list(row) for row in rows]
    for (x, y), other in laying:
        signs[y][x] = ">" if other == (x + 1, y) else "v"
        signs[other[1]][other[0]] = "<" if other == (x + 1, y) else "^"
    return "\n".join("".join(line) for line in signs)


def plain_reading(text):
    """What a text tells, or None where it tells no laying of a floor."""
    lines = text.split("\n")
    rows = ["".join("." if sign == "." else "#" for sign in line) for line in lines]
    if not 1 <= len(rows) <= 6 or not 1 <= len(rows[0]) <= 6 or len({len(row) for row in rows}) > 1:
        return None
    if kind_of(rows) != "floor":
        return None
    told = [laying for laying in all_layings(rows) if plain_text(rows, laying) == text]
    return (rows, told[0]) if told else None


class TextCase(unittest.TestCase):
    def refused(self, text):
        with self.assertRaises(BadText) as caught:
            read_text(text)
        self.assertIs(type(caught.exception), BadText)

    def agrees(self, rows, laying):
        text = plain_text(rows, laying)
        self.assertEqual(shown_text(Floor(rows), laying), text)
        self.assertEqual(read_text(text), (rows, laying))


class ShownTest(TextCase):
    def test_floors_of_two_cells(self):
        self.assertEqual(shown_text(Floor(["##"]), [((0, 0), (1, 0))]), "><")
        self.assertEqual(shown_text(Floor(["#", "#"]), [((0, 0), (0, 1))]), "v\n^")
        self.assertEqual(shown_text(Floor(["...", "##.", "..."]), [((0, 1), (1, 1))]), "...\n><.\n...")

    def test_each_sign_tells_where_the_other_cell_lies(self):
        laying = [((0, 0), (0, 1)), ((1, 0), (2, 0)), ((1, 1), (1, 2))]
        self.assertEqual(shown_text(Floor(["###", "##.", ".#."]), laying), "v><\n^v.\n.^.")

    def test_a_text_is_told(self):
        for rows in LAID:
            told = shown_text(Floor(rows), next(each_laying(cells_of(rows))))
            self.assertIs(type(told), str)
            self.assertEqual([len(line) for line in told.split("\n")], [len(row) for row in rows])

    def test_pieces_and_cells_may_stand_in_any_order(self):
        for rows in LAID:
            laying = next(each_laying(cells_of(rows)))
            mixed = [piece[::-1] for piece in laying[::-1]]
            self.assertEqual(shown_text(Floor(rows), mixed), plain_text(rows, laying))

    def test_there_and_back_on_floors_of_all_forms(self):
        for rows in LAID + grown_floors(60, 31):
            for laying in itertools.islice(each_laying(cells_of(rows)), 30):
                with self.subTest(rows=rows, laying=laying):
                    self.agrees(rows, laying)

    def test_there_and_back_on_all_layings_of_small_floors(self):
        for rows in small_floors(3, 4) + small_floors(4, 3) + small_floors(2, 6):
            for laying in all_layings(rows):
                with self.subTest(rows=rows, laying=laying):
                    self.agrees(rows, laying)

    def test_some_layings_of_the_largest_floor(self):
        for laying in all_layings(LARGEST)[::53]:
            self.agrees(LARGEST, laying)


class ReadTest(TextCase):
    def test_a_pair_of_the_rows_and_the_laying_is_told(self):
        told = read_text("v><\n^v.\n.^.")
        self.assertIs(type(told), tuple)
        self.assertEqual(told, (["###", "##.", ".#."], [((0, 0), (0, 1)), ((1, 0), (2, 0)), ((1, 1), (1, 2))]))
        self.assertEqual([type(part) for part in told], [list, list])
        self.assertEqual({type(row) for row in told[0]}, {str})
        self.assertEqual(read_text("><"), (["##"], [((0, 0), (1, 0))]))
        self.assertEqual(read_text("v\n^"), (["#", "#"], [((0, 0), (0, 1))]))

    def test_dots_may_lie_around(self):
        self.assertEqual(read_text("....\n.><.\n....\n...."), (["....", ".##.", "....", "...."], [((1, 1), (2, 1))]))
        self.assertEqual(read_text(".v\n.^"), ([".#", ".#"], [((1, 0), (1, 1))]))

    def test_all_texts_of_some_sizes(self):
        for width, height in [(1, 1), (2, 1), (1, 2), (3, 1), (1, 3), (4, 1), (1, 4), (2, 2), (6, 1), (1, 6)]:
            found = []
            for signs in itertools.product("<>^v.", repeat=width * height):
                text = "\n".join("".join(signs[y * width:(y + 1) * width]) for y in range(height))
                try:
                    found.append((text, read_text(text)))
                except BadText:
                    continue
            wanted = [(plain_text(rows, laying), (rows, laying))
                      for rows in small_floors(width, height) for laying in all_layings(rows)]
            self.assertEqual(sorted(found), sorted(wanted))

    def test_one_sign_changed(self):
        for rows in [["##"], ["##", "##"], ["###", "##.", ".#."], ["####", "#..#", "#..#", "#..#"], ["..##", "####"],
                     ["####", "####"], [".##.", "####", "####"], ["###...", "#.##..", "#..##.", "#...##"]]:
            for laying in all_layings(rows):
                text = plain_text(rows, laying)
                for at in range(len(text)):
                    for sign in ["<", ">", "^", "v", ".", "#", "x", " ", "V", "\n", "", "\r", "\t", "\0", "-", "><"]:
                        changed = text[:at] + sign + text[at + 1:]
                        wanted = plain_reading(changed)
                        if wanted:
                            self.assertEqual(read_text(changed), wanted)
                        else:
                            self.refused(changed)

    def test_signs_that_do_not_answer_each_other(self):
        for text in ["<>", ">>", "<<", "^\nv", "v\nv", "^\n^", ">v", "v<", "v", "^", "<", ">", "vv", "^^", ">.<",
                     "v\n.\n^", ">>\n<<", "vv\nvv", "><\n<>", "v<\n^>", ">^", "><<", ">><", "><>", "><><>", "v\n^\n^",
                     "v\nv\n^", "><\n^.", "v>\n^<", ">v\n^<", "v<\n>^", "^>\nv<"]:
            with self.subTest(text=text):
                self.refused(text)

    def test_pieces_that_would_stick_out(self):
        for text in [">", "<", "v", "^", ".>", "<.", "v.", "><\n.v", ".^\n><", "><>", "<><", ">\n<", "><\n>.\n<."]:
            with self.subTest(text=text):
                self.refused(text)

    def test_what_is_no_floor(self):
        for text in ["", ".", "...", "..\n..", "><.><", "v.v\n^.^", "><..\n..><", "><\n..\n><",
                     "><v\nv.^\n^><", "v><\n^.v\n><^", "><><\nv..v\n^..^\n><><"]:
            with self.subTest(text=text):
                self.refused(text)

    def test_a_hole_among_signs_that_answer_each_other(self):
        self.refused("><v\nv.^\n^><")
        self.assertEqual(read_text("><v\nv.^\n^..")[0], ["###", "#.#", "#.."])

    def test_parted_cells_among_signs_that_answer_each_other(self):
        self.refused("><..\n..><")
        self.assertEqual(read_text("><.\n.><")[0], ["##.", ".##"])

    def test_texts_that_are_too_long(self):
        for text in ["><><><><", "><.....", ".......\n><.....", "\n".join(["><"] * 7), "\n".join("v^v^v^."),
                     "\n".join(["><><><.."] * 2), "><" * 10000, "\n" * 10000]:
            self.refused(text)
        self.assertEqual(read_text("><><><")[0], ["######"])
        self.assertEqual(read_text("\n".join("v^v^v^"))[0], ["#"] * 6)

    def test_line_ends_stand_between_the_rows_only(self):
        for text in ["><\n", "\n><", "v\n^\n", "v\n\n^", "v\r\n^", "v\r^", "v\x0b^", "v\x0c^", "v\x1c^", "v\x85^",
                     "v\u2028^", "><\n\n><", "\n", "\n\n", "v^", "v\\n^", "><\n.", "><\n...", ">\n<", " ><", ">< ",
                     "> <"]:
            with self.subTest(text=text):
                self.refused(text)

    def test_other_signs(self):
        for text in ["##", "#.", "#", "> <", "->", "()", "[]", "\u2192\u2190", "\uff1e\uff1c", "V\n^", "v\nA",
                     "\u03bd\n^", "><\n##", "><\nxx", "><\n  ", "laying", "True", "None", "><\0", "\ud800", "0", "1"]:
            with self.subTest(text=text):
                self.refused(text)

    def test_what_is_no_text(self):
        for thing in no_places() + [b"><", ["><"], ("><",), {"><"}, {"><": 1}, [">", "<"], (">", "<"), ["v", "^"],
                                    (["##"], [((0, 0), (1, 0))]), [((0, 0), (1, 0))], Floor(["##"]), str, Stubborn,
                                    Flatterer("><"), iter("><"), bytearray(b"><")]:
            with self.subTest(kind=type(thing).__name__):
                self.refused(thing)


if __name__ == "__main__":
    unittest.main()
