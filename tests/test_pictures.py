"""[6], [7]: pictures of boards."""

import random

from sparkboard.cells import Stand, moved, moved_stand
from sparkboard.errors import BadLine, BadRow
from sparkboard.pictures import corners, picture, read_picture
from tests.asking import Asking
from tests.plain import all_small_boards, only_tuples, some_boards, strange_values

NONE = Stand((), ())


def plain_picture(cells, heads, tails, low, high):
    lines = []
    for y in range(low[1], high[1] + 1):
        line = ""
        for x in range(low[0], high[0] + 1):
            if (x, y) not in cells:
                line += "."
            elif (x, y) in heads:
                line += "H"
            elif (x, y) in tails:
                line += "T"
            else:
                line += "#"
        lines.append(line)
    return "".join(line + "\n" for line in lines)


class Pictures(Asking):
    def test_the_signs(self):
        cells = ((0, 0), (1, 0), (2, 1), (3, 1), (3, 2))
        stand = Stand(((1, 0), (3, 2)), ((0, 0),))
        self.assertEqual(picture(cells, stand, (0, 0), (3, 2)), "TH..\n..##\n...H\n")
        self.assertEqual(picture(cells, stand, (1, 0), (2, 1)), "H.\n.#\n")
        self.assertEqual(picture(cells, stand, (-1, -1), (1, 0)), "...\n.TH\n")
        self.assertEqual(picture(cells, stand, (3, 2), (3, 2)), "H\n")

    def test_no_board(self):
        self.assertEqual(picture((), NONE, (5, -5), (7, -4)), "...\n...\n")

    def test_high_beside_low(self):
        cells = ((0, 0), (1, 1))
        for low, high in (((1, 0), (0, 0)), ((0, 1), (0, 0)), ((1, 1), (0, 0)), ((5, 0), (-5, 3)), ((0, 9), (9, 0))):
            self.assertEqual(picture(cells, NONE, low, high), "")
        self.assertEqual(picture(cells, NONE, (0, 0), (0, 0)), "#\n")

    def test_only_cells_are_shown(self):
        stand = Stand(((0, 0), (5, 0)), ((2, 0), (4, 0)))
        self.assertEqual(picture(((0, 0), (1, 0), (2, 0)), stand, (0, 0), (6, 0)), "H#T....\n")
        self.assertEqual(picture((), stand, (0, 0), (6, 0)), ".......\n")

    def test_lists_too(self):
        cells = [[1, 0], (0, 0), [0, 1]]
        told = self.assert_unchanged(picture, cells, Stand([[0, 0]], ()), [0, 0], [1, 1])
        self.assertEqual(told, "H#\n#.\n")

    def test_random_boards_and_parts(self):
        chance = random.Random(1)
        for cells, heads, tails in some_boards(2, 100):
            low = (chance.randrange(-2, 6), chance.randrange(-2, 5))
            high = (low[0] + chance.randrange(-1, 6), low[1] + chance.randrange(-1, 5))
            told = picture(cells, Stand(heads, tails), low, high)
            wanted = plain_picture(cells, heads, tails, low, high) if high[0] >= low[0] else ""
            self.assertEqual(told, wanted)


class Reading(Asking):
    def test_the_signs(self):
        cells, stand = read_picture("TH..\n..##\n...H\n")
        self.assertEqual(cells, ((0, 0), (1, 0), (2, 1), (3, 1), (3, 2)))
        self.assertEqual(stand, Stand(((1, 0), (3, 2)), ((0, 0),)))
        self.assertTrue(only_tuples(cells))

    def test_ascending(self):
        cells, _ = read_picture(".#\nH#\nT#")
        self.assertEqual(cells, ((0, 1), (0, 2), (1, 0), (1, 1), (1, 2)))

    def test_unlike_lines(self):
        wanted = (((0, 0), (0, 2), (4, 2)), Stand(((4, 2),), ()))
        for text in ("#\n\n#...H", "#...\n\n#...H\n", "#\n.....\n#...H\n\n", "#\n.\n#...H...\n..\n"):
            told = read_picture(text)
            self.assertIs(told.__class__, tuple)
            self.assertEqual(told, wanted)

    def test_no_cells(self):
        for text in ("", "\n", "...", "...\n", "\n\n\n", ".\n\n..."):
            self.assertEqual(read_picture(text), ((), NONE))

    def test_other_signs(self):
        for text, line, column in (
            (" ", 1, 1), ("# ", 1, 2), ("#\n#x", 2, 2), ("#\n\n.x\n", 3, 2), ("h", 1, 1), ("t", 1, 1), ("HT#.o", 1, 5),
            ("#\n..,.\nx", 2, 3), ("\n\n\nO", 4, 1), ("#\t", 1, 2), ("#\r\n", 1, 2), ("..1", 1, 3), ("x\n ", 1, 1),
            ("#\n.a.b", 2, 2), ("~", 1, 1), ("-", 1, 1),
        ):
            self.assert_error(BadLine, (line, column), read_picture, text)

    def test_every_other_sign(self):
        for number in range(32, 127):
            if chr(number) in "#.HT":
                read_picture("." + chr(number))
            else:
                self.assert_error(BadLine, (2, 3), read_picture, ".\n##" + chr(number))

    def test_what_is_no_string(self):
        for value in strange_values() + [["#"], ("#",), b"#", 0, ((0, 0),)]:
            if not isinstance(value, str):
                self.assert_error(BadLine, (0, 0), read_picture, value)


class Corners(Asking):
    def test_corners(self):
        self.assertEqual(corners(((3, -1), (0, 5), (7, 2))), ((0, -1), (7, 5)))
        self.assertEqual(corners(((3, 4),)), ((3, 4), (3, 4)))
        self.assertEqual(corners(((-10000, 100000), (100000, -10000))), ((-10000, -10000), (100000, 100000)))

    def test_lists_too(self):
        told = self.assert_unchanged(corners, [[1, 9], (2, 3), [0, 4]])
        self.assertEqual(told, ((0, 3), (2, 9)))
        self.assertTrue(only_tuples(told))

    def test_no_cells(self):
        self.assert_error(BadRow, ((),), corners, ())
        self.assert_error(BadRow, ([],), corners, [])


class Back(Asking):
    """FOR ALL boards: what is read of a picture is the board moved."""

    def check(self, cells, heads, tails):
        stand = Stand(heads, tails)
        low, high = corners(cells)
        self.assertEqual(low, (min(x for x, _ in cells), min(y for _, y in cells)))
        self.assertEqual(high, (max(x for x, _ in cells), max(y for _, y in cells)))
        text = picture(cells, stand, low, high)
        self.assertEqual(text, plain_picture(cells, heads, tails, low, high))
        wanted = moved(cells, -low[0], -low[1]), moved_stand(stand, -low[0], -low[1])
        self.assertEqual(read_picture(text), wanted)
        self.assertEqual(read_picture(text[:-1]), wanted)

    def test_all_small_boards(self):
        for spots in (((0, 0), (1, 0), (0, 1), (2, 1)), ((-3, 5), (-1, 4), (-1, 7))):
            for cells, heads, tails in all_small_boards(spots):
                if cells:
                    self.check(cells, heads, tails)

    def test_random_boards(self):
        for cells, heads, tails in some_boards(3, 100, 7, 6):
            if cells:
                self.check(cells, heads, tails)
                board = (moved(cells, 99, -77), moved(heads, 99, -77), moved(tails, 99, -77))
                self.check(*board)


class Sizes(Asking):
    def test_40000_signs(self):
        cells = tuple((x, y) for x in range(200) for y in range(100))
        stand = Stand(cells[::3], cells[1::3])
        for low in ((0, 0), (-100, -50), (-10000, 100000)):
            high = (low[0] + 199, low[1] + 199)
            text = picture(cells, stand, low, high)
            self.assertEqual(len(text), 201 * 200)
        text = picture(cells, stand, (0, 0), (199, 199))
        self.assertEqual(read_picture(text), (cells, stand))
        wire = tuple((x, 7) for x in range(20000))
        self.assertEqual(read_picture(picture(wire, NONE, *corners(wire))), (moved(wire, 0, -7), NONE))
        self.assertEqual(read_picture("\n" * 39999 + "#"), (((0, 39999),), NONE))
