"""[47] to [49]: which boards are boards of a program."""

import itertools
import random

from sparkboard.boards import Board, board_of, exit_heads, shown
from sparkboard.judge import first_wrong, is_board, ways_on
from sparkboard.programs import Program
from tests.asking import Asking
from tests.plain import Strange, only_tuples, plain_neighbours, rows_of_bits, strange_values
from tests.plain_boards import (
    other_ways, plain_first_wrong, plain_gates, plain_is_path, plain_laid, plain_moments, plain_resets, plain_shown,
    plain_way, some_board_parts, some_parts, untangled,
)
from tests.plain_tiles import parts_of, plain_played, random_stages
from tests.test_boards import ATTRIBUTES, board_parts
from tests.test_placing import TOGGLE

# One register that holds its bit, and one that turns over with the input.
TWO = (
    5, (2,), ((0, 1), (4, 0)),
    ((("wire", 0), ("wire", 2), ("up", 4)), (("wire", 0), ("xor", 2)), (("wire", 0), ("copy", 2))), (0, 2), (3,),
)


def changed(board, **parts):
    return Board(*[parts.get(name, getattr(board, name)) for name in ATTRIBUTES])


def board_with(parts, steps, paths):
    """The board of a program with these ways."""
    cells = set(plain_laid(parts)) | {cell for path in paths for cell in path}
    width = 20 * len(parts[3])
    period = width + steps if paths else max(24, width)
    return Board(sorted(cells), *plain_resets(parts), *plain_gates(parts), period, width)


def otherwise(parts, out=0, more=0):
    """A board of a program with ways that the program does not make, and these ways in the order of their rows."""
    loops = sorted((row, behind) for (row, _), behind in zip(parts[2], parts[4]))
    if not loops:
        return board_with(parts, 0, ()), ()
    starts, ends = [8 * behind for _, behind in loops], [8 * row for row, _ in loops]
    steps, paths = other_ways(20 * len(parts[3]), -4, starts, ends, out, more)
    return board_with(parts, steps, paths), paths


# A register in row 2 that holds its bit.
BESIDE = (4, (), ((2, 1),), ((("copy", 2),), (("wire", 2), ("wire", 3))), (2,), (3,))


def beside_the_field():
    """A board of BESIDE, with a way that comes down next to the field, and this way."""
    way = [(40, 16), (41, 16)] + [(42, y) for y in range(15, -6, -1)] + [(x, -6) for x in range(41, -1, -1)]
    way += [(-1, y) for y in range(-5, 11)] + [(-2, y) for y in range(11, 16)] + [(-1, 16), (0, 16)]
    return board_with(BESIDE, len(way) - 1, (tuple(way),)), tuple(way)


class Judging(Asking):
    def assert_judged(self, parts, board):
        program, wanted = Program(*parts), plain_first_wrong(parts, board)
        told = first_wrong(program, board)
        self.assertEqual(told, wanted)
        self.assertEqual(told.__class__, wanted.__class__)
        self.assertIs(is_board(program, board), wanted is None)
        return told


class Taken(Judging):
    def test_nothing_is_changed(self):
        board = board_of(Program(*TWO))
        self.assertIsNone(self.assert_unchanged(first_wrong, Program(*TWO), board))
        self.assertIs(self.assert_unchanged(is_board, Program(*TWO), board), True)
        self.assert_unchanged(ways_on, Program(*TWO), board)

    def test_boards_of_programs(self):
        """Fact D."""
        for parts in some_board_parts(1, 60) + [TOGGLE, TWO]:
            self.assertIsNone(self.assert_judged(parts, board_of(Program(*parts))))

    def test_boards_with_other_ways(self):
        """Fact E, by the plain rule."""
        for number, parts in enumerate(some_board_parts(2, 40, 4, 3) + [TOGGLE, TWO]):
            board, _ = otherwise(parts, number % 3, number % 7)
            self.assertIsNone(self.assert_judged(parts, board))
            rows = rows_of_bits(number, len(parts[1]), 3)
            outs = plain_played(parts, rows + ((0,) * len(parts[1]),) * 2)
            self.assertEqual(shown(board, rows), outs[:3])
            wanted = tuple(sorted(
                (cycle * board.period + board.delay, at) for cycle, bits in enumerate(outs) for at, bit in enumerate(bits)
                if bit and cycle * board.period + board.delay < 4 * board.period
            ))
            self.assertEqual(exit_heads(board, rows, 4 * board.period), wanted)
            if number % 4 == 0:
                self.assertEqual(plain_shown(board, rows), outs[:3])

    def test_joints(self):
        """Which neighbours a way and the field have."""
        for parts in some_board_parts(3, 40) + [TWO]:
            board, paths = otherwise(parts)
            last = 20 * len(parts[3])
            field = {(x, y) for x, y in board.cells if 0 <= x <= last and y >= -4}
            for path in paths:
                pairs = {(cell, near) for cell in path for near in plain_neighbours(cell)
                         if near in field and near not in path}
                wanted = {(path[0], (last - 1, path[0][1])), (path[-1], (1, path[-1][1]))}
                self.assertEqual(pairs, {(cell, near) for cell, near in wanted if near in field})

    def test_a_longer_period_without_registers(self):
        parts = (1, (0,), (), ((("wire", 0),), (("wire", 0),)), (), (0,))
        board = board_of(Program(*parts))
        for period in (40, 41, 1000):
            self.assertIsNone(self.assert_judged(parts, changed(board, period=period)))
        for period in (1, 24, 39):
            self.assertEqual(self.assert_judged(parts, changed(board, period=period)), 4)
        short = (1, (0,), (), ((("wire", 0),),), (), (0,))
        for period, wanted in ((20, 4), (23, 4), (24, None), (25, None)):
            self.assertEqual(self.assert_judged(short, changed(board_of(Program(*short)), period=period)), wanted)

    def test_registers_in_any_order(self):
        rows, inputs, registers, stages, nexts, outs = TWO
        other = (rows, inputs, registers[::-1], stages, nexts[::-1], outs)
        self.assertIsNone(self.assert_judged(other, board_of(Program(*TWO))))
        tangled = (rows, inputs, registers[::-1], stages, nexts, outs)
        self.assertEqual(self.assert_judged(tangled, board_of(Program(*TWO))), 3)

    def test_another_program(self):
        programs = some_board_parts(4, 14, 3, 2)
        for parts, others in itertools.product(programs, programs):
            self.assert_judged(parts, board_of(Program(*others)))

    def test_ways_do_not_cross(self):
        """Fact C: no board is taken for a program whose nexts do not ascend with its registers."""
        asked = 0
        for parts in some_parts(12, 200, 6, 2, 1):
            if parts != untangled(parts):
                asked += 1
                for out in range(2):
                    for board in (board_of(Program(*untangled(parts))), otherwise(untangled(parts), out, 3 * out)[0]):
                        self.assertEqual(self.assert_judged(parts, board), 3)
        self.assertGreater(asked, 20)

    def test_rows_that_bear_nothing(self):
        more = (TWO[0] + 5,) + TWO[1:]
        self.assertIsNone(self.assert_judged(more, board_of(Program(*TWO))))


class Wrong(Judging):
    def test_each_number(self):
        board = board_of(Program(*TWO))
        last = board.delay
        for number, parts in (
            (1, {"delay": last + 20}), (1, {"delay": last - 1}), (1, {"entries": ()}), (1, {"entries": ((0, 0),)}),
            (1, {"exits": ()}), (1, {"exits": board.exits + ((last, 0),)}), (1, {"entries": ((0, 16), (0, 0))}),
            (2, {"cells": board.cells + ((30, 50),)}), (2, {"cells": board.cells + ((30, -4),)}),
            (2, {"cells": board.cells + ((last, 40),)}), (2, {"cells": board.cells + ((0, -4),)}),
            (3, {"cells": board.cells + ((30, -500),)}), (3, {"cells": board.cells + ((-90, 0),)}),
            (3, {"cells": board.cells + ((last + 90, 0),)}), (4, {"period": board.period + 1}),
            (4, {"period": board.period - 1}), (4, {"period": 1}), (5, {"heads": ()}), (5, {"tails": ()}),
            (5, {"heads": ((0, 0), (0, 32))}), (5, {"heads": ((5, 0),)}), (5, {"tails": ((-1, 32),)}),
            (5, {"heads": board.tails, "tails": board.heads}),
        ):
            self.assertEqual(self.assert_judged(TWO, changed(board, **parts)), number)

    def test_the_first_of_several(self):
        board = board_of(Program(*TWO))
        bad = {
            1: {"delay": 7}, 2: {"cells": board.cells + ((30, 50),)}, 3: {"cells": board.cells + ((30, -500),)},
            4: {"period": 10 ** 4}, 5: {"heads": ()},
        }
        for numbers in itertools.product((False, True), repeat=5):
            parts = {}
            for number in (number for number in bad if numbers[number - 1]):
                for name, value in bad[number].items():
                    parts[name] = tuple(sorted(set(parts.get(name, ())) | set(value))) if name == "cells" else value
            wanted = numbers.index(True) + 1 if True in numbers else None
            self.assertEqual(self.assert_judged(TWO, changed(board, **parts)), wanted)

    def test_exchanged_entries_and_exits(self):
        wires = (tuple(("wire", row) for row in range(3)),)
        parts = (3, (0, 2), (), wires, (), (1, 0))
        board = board_of(Program(*parts))
        self.assertIsNone(self.assert_judged(parts, board))
        self.assertEqual(self.assert_judged(parts, changed(board, entries=board.entries[::-1])), 1)
        self.assertEqual(self.assert_judged(parts, changed(board, exits=board.exits[::-1])), 1)

    def assert_bent(self, parts, board):
        """Each cell near the board put in, each one taken out."""
        around = {near for cell in board.cells for near in plain_neighbours(cell)} | set(board.cells)
        found = {}
        for cell in sorted(around):
            cells = [other for other in board.cells if other != cell] if cell in board.cells else board.cells + (cell,)
            lost = [
                tuple(other for other in row if other != cell)
                for row in (board.heads, board.tails, board.entries, board.exits)
            ]
            told = self.assert_judged(parts, Board(cells, *lost, board.period, board.delay))
            self.assertIsNotNone(told)
            found[told] = found.get(told, 0) + 1
        return found

    def test_each_cell(self):
        parts = (3, (0,), ((2, 1),), ((("wire", 0), ("up", 2)),), (1,), (0,))
        found = self.assert_bent(parts, board_of(Program(*parts)))
        self.assertEqual(set(found), {1, 2, 3})
        found = self.assert_bent((1, (), ((0, 0),), ((("wire", 0),),), (0,), ()), otherwise(
            (1, (), ((0, 0),), ((("wire", 0),),), (0,), ()))[0])
        self.assertEqual(set(found), {2, 3})

    def test_each_cell_of_ways_side_by_side(self):
        parts = (3, (), ((0, 0), (1, 1)), ((("wire", 0), ("wire", 1)),), (0, 1), ())
        found = self.assert_bent(parts, otherwise(parts)[0])
        self.assertEqual(set(found), {2, 3})

    def test_a_cell_moved(self):
        chance = random.Random(5)
        for parts in some_board_parts(6, 30, 4, 2):
            board = board_of(Program(*parts))
            free = [cell for cell in board.cells if cell not in board.heads + board.tails + board.entries + board.exits]
            for cell in chance.sample(free, min(len(free), 12)):
                near = chance.choice(plain_neighbours(cell))
                if near not in board.cells:
                    cells = [other for other in board.cells if other != cell] + [near]
                    self.assert_judged(parts, changed(board, cells=cells))

    def test_other_stands(self):
        chance = random.Random(7)
        for parts in some_board_parts(8, 30, 4, 2):
            board = board_of(Program(*parts))
            for _ in range(4 if board.cells else 0):
                cell = chance.choice(board.cells)
                heads = [other for other in board.heads if other != cell]
                tails = [other for other in board.tails if other != cell]
                for more, further in (([cell], []), ([], [cell]), ([], [])):
                    self.assert_judged(parts, changed(board, heads=heads + more, tails=tails + further))


class WaysOn(Asking):
    def assert_ways(self, parts, board):
        """What [48] tells of each way, in the plainest way."""
        told = ways_on(Program(*parts), board)
        last, cells = 20 * len(parts[3]), set(board.cells)
        for (row, _), behind, way in zip(parts[2], parts[4], told):
            self.assertEqual(way, self.plain_way(cells, last, (last, 8 * behind), (0, 8 * row)))
        self.assertEqual(len(told), len(parts[2]))
        return told

    def plain_way(self, cells, last, start, end):
        way = [start, (start[0] + 1, start[1])]
        if not set(way) <= cells:
            return None
        while True:
            free = [cell for cell in plain_neighbours(way[-1]) if cell in cells and cell not in way]
            if len(free) != 1:
                return None
            way.append(free[0])
            if free[0] == end:
                break
            if 0 <= free[0][0] <= last and free[0][1] >= -4:
                return None
        touching = any(
            max(abs(one[0] - other[0]), abs(one[1] - other[1])) == 1
            for at, one in enumerate(way) for other in way[at + 2:]
        )
        return tuple(way) if way[-2] == (-1, end[1]) and not touching else None

    def test_ways_of_boards(self):
        for parts in some_board_parts(9, 25, 4, 2) + [TWO]:
            board, paths = otherwise(parts)
            told = self.assert_ways(parts, board)
            order = sorted(range(len(parts[2])), key=lambda k: parts[2][k])
            self.assertEqual(tuple(told[k] for k in order), paths)
            self.assertTrue(only_tuples(told))
            self.assert_ways(parts, board_of(Program(*parts)))

    def test_none(self):
        parts = (3, (0,), ((2, 1),), ((("wire", 0), ("up", 2)),), (1,), (0,))
        board = otherwise(parts)[0]
        self.assertEqual(len(self.assert_ways(parts, board)), 1)
        around = {near for cell in board.cells if cell[0] < 0 or cell[0] > 20 or cell[1] < -4 for near in plain_neighbours(cell)}
        found = {True: 0, False: 0}
        for cell in sorted(around):
            cells = [other for other in board.cells if other != cell] if cell in board.cells else board.cells + (cell,)
            told = self.assert_ways(parts, Board(cells, (), (), (), (), 1, 0))
            found[told == (None,)] += 1
        # A cell at the end of a row of others does not always make a choice.
        self.assertGreater(found[True], 100)

    def test_ways_that_lead_through_the_field_or_end_elsewhere(self):
        parts = (2, (), ((0, 0),), ((),), (1,), ())
        ahead = [(20, 8), (21, 8)] + [(22, y) for y in range(7, -6, -1)]
        over = [(x, -6) for x in range(21, -2, -1)]
        down = [(-2, y) for y in range(-5, 0)]
        right = ahead + over + down + [(-1, 0), (0, 0)]
        through = [(20, 8), (21, 8), (22, 7), (22, 6)] + [(x, 5) for x in range(21, -1, -1)] + [(-1, 4)]
        through += [(-1, 3), (-1, 2), (-1, 1), (0, 0)]
        below = [(20, 8), (21, 8), (22, 7), (22, 6)] + [(x, 5) for x in range(21, -3, -1)]
        below += [(-3, 4), (-3, 3), (-3, 2), (-3, 1), (-2, 0), (-1, 0), (0, 0)]
        self.assertTrue(plain_is_path(tuple(below)))
        above = ahead + over + down[:-2] + [(-1, -2), (-1, -1), (0, 0)]
        for cells, wanted in ((right, True), (through, False), (below, False), (above, False), (right[:-1], False), (right[:-2], False),
                              (right[1:], False), (right[:1] + right[2:], False)):
            board = Board(cells, (), (), (), (), 1, 0)
            told = self.assert_ways(parts, board)
            self.assertEqual(told, (tuple(right),) if wanted else (None,))

    def test_a_way_that_is_no_path(self):
        """It has no choice anywhere, but its cells touch one another where it comes by again."""
        parts = (1, (), ((0, 0),), ((),), (0,), ())
        board = otherwise(parts)[0]
        way = list(ways_on(Program(*parts), board)[0])
        # An upright step behind the second cell stands next to a level one: the first cell and the third one touch.
        cells = [(20, 0), (21, 0), (21, -1)] + [(21, y) for y in range(-2, -6, -1)] + [(x, -6) for x in range(20, -3, -1)]
        cells += [(-3, y) for y in range(-5, 0)] + [(-2, 0), (-1, 0), (0, 0)]
        told = self.assert_ways(parts, Board(cells, (), (), (), (), 1, 0))
        self.assertEqual(told, (None,))
        self.assertIsNotNone(plain_way(parts, board, 0))
        self.assertGreater(len(way), 40)

    def test_a_way_beside_the_field(self):
        """It comes down in the column -1, by lines on which nothing begins."""
        board, way = beside_the_field()
        self.assertTrue(plain_is_path(way))
        self.assertEqual(self.assert_ways(BESIDE, board), (way,))
        self.assertIs(is_board(Program(*BESIDE), board), True)
        self.assertEqual(shown(board, ((), (), ())), ((1,), (1,), (1,)))
        more = BESIDE[:1] + ((0,),) + BESIDE[2:]
        other = changed(board, cells=board.cells + ((0, 0),), entries=((0, 0),))
        self.assertEqual(first_wrong(Program(*more), other), 3)
        self.assertEqual(plain_first_wrong(more, other), 3)

    def test_no_registers(self):
        self.assertEqual(ways_on(Program(1, (0,), (), ((),), (), (0,)), Board((), (), (), (), (), 1, 0)), ())


class AnyValue(Asking):
    def test_is_board(self):
        board = board_of(Program(*TOGGLE))

        class Like:
            cells, heads, tails, entries, exits, period, delay = board_parts(board)

        program = Program(*TOGGLE)
        for value in strange_values() + [board_parts(board), [board], (board,), Like(), Strange(), program, Board, "Board", 0]:
            self.assertIs(is_board(program, value), False)
        self.assertIs(is_board(program, board), True)

    def test_no_stage(self):
        parts = (1, (0,), (), (), (), (0,))
        board = Board(((0, 0),), (), (), ((0, 0),), ((0, 0),), 24, 0)
        self.assertIs(is_board(Program(*parts), board), False)
        self.assertIs(is_board(Program(*parts), None), False)
        self.assertIs(is_board(Program(*parts[:3], ((),), (), (0,)), board), False)


class Sizes(Asking):
    def setUp(self):
        stages = random_stages(random.Random(10), 12, 60, 0)
        self.parts = (12, (0, 2), tuple((row, row % 2) for row in range(4, 12)), stages, tuple(range(1, 9)), (0, 9, 10))

    def test_60_stages_of_12_rows(self):
        program, board = Program(*self.parts), board_of(Program(*self.parts))
        self.assertEqual(parts_of(program), self.parts)
        for _ in range(5):
            self.assertIsNone(first_wrong(program, board))
            self.assertIs(is_board(program, board), True)
        self.assertIsNone(plain_first_wrong(self.parts, board))
        for cell in board.cells[::997]:
            if cell not in board.heads + board.tails + board.entries + board.exits:
                bent = changed(board, cells=[other for other in board.cells if other != cell])
                self.assertIn(first_wrong(program, bent), (2, 3))

    def test_100000_cells(self):
        board, _ = otherwise(self.parts, 2200, 0)
        self.assertGreater(len(board.cells), 90000)
        self.assertLess(len(board.cells), 110000)
        self.assertIsNone(first_wrong(Program(*self.parts), board))
        self.assertIs(None in ways_on(Program(*self.parts), board), False)
        self.assertEqual(first_wrong(Program(*self.parts), changed(board, cells=board.cells + ((9, -300),))), 3)

    def test_sparks_on_a_large_board(self):
        board, rows = board_of(Program(*self.parts)), rows_of_bits(11, 2, 2)
        heads, _ = plain_moments(board, rows, board.delay)[board.delay]
        wanted = plain_played(self.parts, rows[:1])[0]
        self.assertEqual(tuple(1 if cell in heads else 0 for cell in board.exits), wanted)
