"""[20] to [22], [24]: the kinds of tiles, their rows, words and shapes."""

import itertools

from sparkboard import tiles
from sparkboard.errors import BadName, BadRow
from sparkboard.tiles import cells_at, ins_of, is_tile, kinds, outs_of, rows_of, tile_cells, upper, word_of
from tests.asking import Asking
from tests.plain import Strange, all_bits, only_tuples, strange_values
from tests.plain_tiles import INS, KINDS, OUTS, SHAPES, WORDS, cells_of_words, plain_rows_of, plain_top

NO_KINDS = strange_values() + [
    "Wire", "wire ", " wire", "and", "not", "one", "xo", "xorr", "w", b"wire", ("wire",), ["wire"], ("wire", 0), "wire\n",
    "up down", 0, 1, "way", "in",
]


class Kinds(Asking):
    def test_numbers(self):
        self.assertEqual((tiles.WIDTH, tiles.PITCH, tiles.GAP), (20, 8, 24))
        for number in (tiles.WIDTH, tiles.PITCH, tiles.GAP):
            self.assertIs(number.__class__, int)

    def test_kinds(self):
        self.assertEqual(kinds(), ("wire", "up", "down", "copy", "or", "xor", "but"))
        self.assertIs(kinds().__class__, tuple)

    def test_rows_that_are_read_and_given(self):
        wanted = {
            "wire": ((0,), (0,)), "up": ((1,), (0,)), "down": ((0,), (1,)), "copy": ((0,), (0, 1)),
            "or": ((0, 1), (0,)), "xor": ((0, 1), (0,)), "but": ((0, 1), (0,)),
        }
        for kind in kinds():
            self.assertEqual((ins_of(kind), outs_of(kind)), wanted[kind])
            self.assertTrue(only_tuples((ins_of(kind), outs_of(kind))))

    def test_no_kinds(self):
        for call in (ins_of, outs_of, tile_cells):
            for value in NO_KINDS:
                self.assert_error(BadName, (value,), call, value)


class Words(Asking):
    def test_tables(self):
        for kind in ("wire", "up", "down"):
            self.assertEqual([word_of(kind, (bit,)) for bit in (0, 1)], [(0,), (1,)])
        self.assertEqual([word_of("copy", (bit,)) for bit in (0, 1)], [(0, 0), (1, 1)])
        pairs = ((0, 0), (0, 1), (1, 0), (1, 1))
        self.assertEqual([word_of("or", bits) for bits in pairs], [(0,), (1,), (1,), (1,)])
        self.assertEqual([word_of("xor", bits) for bits in pairs], [(0,), (1,), (1,), (0,)])
        self.assertEqual([word_of("but", bits) for bits in pairs], [(0,), (0,), (1,), (0,)])

    def test_lists_too(self):
        for kind in kinds():
            for bits in all_bits(len(INS[kind])):
                told = self.assert_unchanged(word_of, kind, list(bits))
                self.assertEqual(told, WORDS[kind](*bits))
                self.assertTrue(only_tuples(told))

    def test_wrong_bits(self):
        for kind in kinds():
            right = (0,) * len(INS[kind])
            wrong = strange_values() + [
                right + (0,), right[1:], right[1:] + (2,), right[1:] + (-1,), right[1:] + (True,), right[1:] + (False,),
                list(right[1:]) + [None], right[1:] + (0.0,), right[1:] + ("0",), [2] + list(right[1:]), (True,) + right[1:],
                "0" * len(right), 0, 1, {0}, {0: 1}, (right,), [list(right)],
            ]
            for bits in wrong:
                self.assert_error(BadRow, (bits,), word_of, kind, bits)

    def test_the_name_goes_ahead(self):
        for value in NO_KINDS:
            for bits in ((0,), (0, 1), None, (2,), Strange()):
                self.assert_error(BadName, (value,), word_of, value, bits)


class Shapes(Asking):
    def test_cell_by_cell(self):
        for kind in kinds():
            self.assertEqual(tile_cells(kind), cells_of_words(SHAPES[kind]), kind)
            self.assertTrue(only_tuples(tile_cells(kind)))

    def test_straight_ones(self):
        self.assertEqual(tile_cells("wire"), tuple((x, 0) for x in range(20)))
        down = [(x, min(max(x - 5, 0), 8)) for x in range(20)]
        self.assertEqual(tile_cells("down"), tuple(down))
        self.assertEqual(tile_cells("up"), tuple((x, 8 - y) for x, y in down))

    def test_what_or_and_xor_differ_in(self):
        self.assertEqual(set(tile_cells("xor")) - set(tile_cells("or")), {(9, 3), (9, 5)})
        self.assertLess(set(tile_cells("or")), set(tile_cells("xor")))

    def test_how_many(self):
        self.assertEqual([len(tile_cells(kind)) for kind in kinds()], [20, 20, 20, 35, 35, 37, 39])

    def test_pictures(self):
        copy = (
            ".....##.............",
            "#####..#############",
            ".....#..............",
            "......#.............",
            ".......#............",
            "........#...........",
            ".........#..........",
            "..........#.........",
            "...........#........",
            "............########",
        )
        but = (
            "####..##.........###",
            "....###.#.......#...",
            "......##.#.....#....",
            "..........#...#.....",
            "......##...#.#......",
            "....###.#####.......",
            "...#..##...#........",
            "..#.................",
            "##..................",
        )
        for kind, top, lines in (("copy", -1, copy), ("but", 0, but)):
            seen = {(x, y + top) for y, line in enumerate(lines) for x, sign in enumerate(line) if sign == "#"}
            self.assertEqual(tile_cells(kind), tuple(sorted(seen)))


class Places(Asking):
    def test_upper(self):
        for kind in kinds():
            for row in (1, 2, 7, 400):
                self.assertEqual(upper((kind, row)), row - 1 if kind == "up" else row)
        self.assertEqual(upper(("wire", 0)), 0)

    def test_rows(self):
        self.assertEqual(rows_of(("wire", 3)), (3,))
        self.assertEqual(rows_of(("up", 3)), (2, 3))
        self.assertEqual(rows_of(("up", 1)), (0, 1))
        for kind in ("down", "copy", "or", "xor", "but"):
            self.assertEqual(rows_of((kind, 3)), (3, 4))
            self.assertEqual(rows_of((kind, 0)), (0, 1))
        for kind in kinds():
            for row in range(1, 401):
                self.assertEqual(rows_of((kind, row)), plain_rows_of((kind, row)))
                self.assertTrue(only_tuples(rows_of((kind, row))))

    def test_cells(self):
        self.assertEqual(cells_at(("wire", 0), 0), tile_cells("wire"))
        self.assertEqual(cells_at(("wire", 2), 40), tuple((x, 16) for x in range(40, 60)))
        self.assertEqual(cells_at(("up", 1), 0), tile_cells("up"))
        self.assertEqual(cells_at(("down", 1), 20)[0], (20, 8))
        for kind, row, x in itertools.product(kinds(), (1, 2, 5, 399, 400), (-20, 0, 1, 20, 60, 19999, 20000)):
            down = 8 * plain_top((kind, row))
            wanted = sorted((u + x, v + down) for u, v in cells_of_words(SHAPES[kind]))
            told = cells_at((kind, row), x)
            self.assertEqual(told, tuple(wanted))
            self.assertTrue(only_tuples(told))


class Joints(Asking):
    """Fact C of [23], pair by pair."""

    def setUp(self):
        self.tiles = [(kind, row) for kind in KINDS for row in range(4) if kind != "up" or row > 0]
        self.cells = {(tile, x): cells_at(tile, x) for tile in self.tiles for x in (0, 20, 40)}

    def joints(self, one, other):
        """Pairs of cells of both at a distance of at most 1."""
        lot = set(other)
        near = itertools.product((-1, 0, 1), repeat=2)
        moves = list(near)
        found = set()
        for x, y in one:
            found |= {((x, y), (x + dx, y + dy)) for dx, dy in moves if (x + dx, y + dy) in lot}
        return found

    def test_tiles_of_one_stage(self):
        for one, other in itertools.combinations(self.tiles, 2):
            if not set(plain_rows_of(one)) & set(plain_rows_of(other)):
                self.assertEqual(self.joints(self.cells[one, 0], self.cells[other, 0]), set(), (one, other))

    def test_stages_that_are_not_side_by_side(self):
        for one, other in itertools.product(self.tiles, repeat=2):
            self.assertEqual(self.joints(self.cells[one, 0], self.cells[other, 40]), set(), (one, other))

    def test_stages_side_by_side(self):
        for one, other in itertools.product(self.tiles, repeat=2):
            given = {plain_top(one) + out for out in OUTS[one[0]]}
            read = {plain_top(other) + row for row in INS[other[0]]}
            wanted = {((19, 8 * row), (20, 8 * row)) for row in given & read}
            self.assertEqual(self.joints(self.cells[one, 0], self.cells[other, 20]), wanted, (one, other))


class Named(Asking):
    def test_judging_begins_with_the_name(self):
        for value in NO_KINDS:
            for cells in ((), None, tile_cells("wire"), Strange()):
                self.assert_error(BadName, (value,), is_tile, value, cells)
