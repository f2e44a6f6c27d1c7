"""[50] to [53]: programs read back from boards."""

import itertools
import random

from sparkboard.boards import Board, board_for, board_of, shown
from sparkboard.circuits import Circuit
from sparkboard.judge import is_board
from sparkboard.making import program_of
from sparkboard.placing import laid
from sparkboard.programs import Program
from sparkboard.reading import NotOurs, Read, is_read, lean, pieces_of, read_board, read_stage, tile_of
from tests.asking import Asking
from tests.plain import Strange, only_tuples, plain_neighbours, rows_of_bits, some_boards, some_plans, strange_values
from tests.plain_boards import (
    SHAPE_CELLS, plain_first_wrong, plain_lean, plain_pieces, plain_read_stage, plain_tile, some_board_parts, some_parts,
)
from tests.plain_tiles import KINDS, all_stages, parts_of, plain_played, plain_top, random_stages
from tests.test_boards import random_board
from tests.test_judge import BESIDE, TWO, beside_the_field, changed, otherwise
from tests.test_placing import TOGGLE


def shape_at(kind, row, s=0):
    """The cells of the shape with this upper row at stage s."""
    return tuple(sorted((x + 20 * s, y + 8 * row) for x, y in SHAPE_CELLS[kind]))


class Lean(Asking):
    def test_rows(self):
        for parts, rows in (
            ((9, (), (), (), (), ()), 1), ((9, (3,), (), (), (), ()), 4), ((9, (), ((5, 1),), (), (0,), ()), 6),
            ((9, (), ((0, 1),), (), (6,), ()), 7), ((9, (), (), (), (), (7,)), 8), ((9, (), (), ((("wire", 2),),), (), ()), 3),
            ((9, (), (), ((), (("up", 3),), ()), (), ()), 4), ((9, (), (), ((("down", 3),),), (), ()), 5),
            ((9, (), (), ((("or", 3),), (("wire", 0),)), (), ()), 5), ((9, (8,), (), (), (), ()), 9), ((1, (0,), (), (), (), ()), 1),
        ):
            told = lean(Program(*parts))
            self.assertEqual(parts_of(told), (rows,) + parts[1:])

    def test_registers_in_the_order_of_their_rows(self):
        program = Program(9, (6, 1), ((5, 1), (0, 0), (3, 1)), (), (4, 8, 2), (7, 0))
        self.assertEqual(parts_of(lean(program)), (9, (6, 1), ((0, 0), (3, 1), (5, 1)), (), (8, 2, 4), (7, 0)))

    def test_random_programs(self):
        for parts in some_parts(1, 200, 8, 4):
            program = Program(*parts)
            told = self.assert_unchanged(lean, program)
            self.assertEqual(parts_of(told), plain_lean(parts))
            self.assertTrue(lean(told) == told)
            self.assertIs(told == program, plain_lean(parts) == parts)

    def test_the_judge_takes_a_board_for_both(self):
        """Fact A."""
        for parts in some_board_parts(2, 30):
            wider = (parts[0] + 3,) + parts[1:]
            board = board_of(Program(*parts))
            for other in (board, changed(board, period=board.period + 1), changed(board, cells=board.cells + ((7, 900),))):
                self.assertIs(is_board(lean(Program(*wider)), other), is_board(Program(*wider), other))


class Pieces(Asking):
    def test_a_stage(self):
        parts = (4, (0, 3), (), ((("wire", 0), ("xor", 1)), (("wire", 1),)), (), ())
        cells = laid(Program(*parts))
        self.assertEqual(pieces_of(cells, 0), (shape_at("wire", 0), shape_at("xor", 1), ((0, 24),)))
        self.assertEqual(pieces_of(cells, 1), (shape_at("wire", 1, 1),))
        self.assertEqual(pieces_of(cells, 2), ())
        self.assertEqual(pieces_of((), 0), ())
        self.assertEqual(pieces_of([], 7), ())

    def test_the_window(self):
        """Columns from 0 to 19 of the stage, lines from -4 on; cells hang together within it alone."""
        cells = [[19, -4], [19, -5], [20, -4], [39, 3], [40, 3], [20, -6], (39, 5), (40, 4), (38, 900)]
        self.assertEqual(pieces_of(cells, 0), (((19, -4),),))
        self.assertEqual(pieces_of(cells, 1), (((20, -4),), ((38, 900),), ((39, 3),), ((39, 5),)))
        self.assertEqual(pieces_of(cells, 2), (((40, 3), (40, 4)),))

    def test_random_cells(self):
        for number, (cells, _, _) in enumerate(some_boards(3, 60, 45, 6)):
            few = [cell for at, cell in enumerate(cells) if (at * 7 + number) % 3 == 0][::-1]
            for s in range(3):
                low = tuple((x, y - 6) for x, y in few)
                told = self.assert_unchanged(pieces_of, low, s)
                self.assertEqual(told, plain_pieces(low, s))
                self.assertTrue(only_tuples(told))
                self.assertEqual(pieces_of([list(cell) for cell in low], s), told)

    def test_each_tile_is_one_piece(self):
        """The first half of Fact B."""
        for kind, row, s in itertools.product(KINDS, (0, 1, 5), (0, 3)):
            cells = shape_at(kind, row, s)
            self.assertEqual(pieces_of(cells, s), (cells,))
            self.assertEqual(plain_pieces(cells, s), (cells,))


class Tiles(Asking):
    def test_each_tile(self):
        for kind, row, s in itertools.product(KINDS, range(9), (0, 1, 8)):
            wanted = (kind, row + 1) if kind == "up" else (kind, row)
            told = self.assert_unchanged(tile_of, shape_at(kind, row, s), s)
            self.assertEqual(told, wanted)
            self.assertTrue(only_tuples(told))
            self.assertEqual(tile_of([list(cell) for cell in shape_at(kind, row, s)], s), wanted)

    def test_no_two_tiles_have_the_same_cells(self):
        found = {shape_at(kind, row) for kind, row in itertools.product(KINDS, range(9))}
        self.assertEqual(len(found), 7 * 9)

    def test_no_tile(self):
        self.assertIsNone(tile_of((), 0))
        for kind in KINDS:
            cells = shape_at(kind, 1, 2)
            for dx, dy in ((0, 1), (0, 4), (1, 0), (20, 0), (0, -16), (0, -1), (-20, 8)):
                self.assertIsNone(tile_of(tuple((x + dx, y + dy) for x, y in cells), 2))
            self.assertEqual(tile_of(tuple((x, y - 8) for x, y in cells), 2), (kind, 1 if kind == "up" else 0))
            for at, cell in enumerate(cells):
                self.assertIsNone(tile_of(cells[:at] + cells[at + 1:], 2))
                for near in plain_neighbours(cell):
                    if near not in cells:
                        bent = tuple(sorted(cells + (near,)))
                        moved = tuple(sorted(cells[:at] + cells[at + 1:] + (near,)))
                        self.assertEqual((tile_of(bent, 2), tile_of(moved, 2)), (plain_tile(bent, 2), plain_tile(moved, 2)))

    def test_or_and_xor(self):
        cells = shape_at("xor", 2)
        without = tuple(cell for cell in cells if cell not in ((9, 19), (9, 21)))
        self.assertEqual(tile_of(without, 0), ("or", 2))
        self.assertIsNone(tile_of(tuple(cell for cell in cells if cell != (9, 19)), 0))


class Stages(Asking):
    def assert_stage(self, cells, s):
        told = self.assert_unchanged(read_stage, cells, s)
        wanted = plain_read_stage(cells, s)
        if isinstance(told, NotOurs):
            self.assertTrue(only_tuples(told.cell))
            self.assertEqual(told.cell, wanted)
        else:
            self.assertTrue(only_tuples(told))
            self.assertEqual(told, wanted)
        return told

    def test_all_stages_of_four_rows(self):
        """Fact B, for each stage of each program."""
        for stage in all_stages(4):
            cells = laid(Program(4, (0, 1, 2, 3), (), (stage,), (), (0, 3)))
            self.assertEqual(read_stage(cells, 0), stage)

    def test_random_programs(self):
        for parts in some_parts(4, 60, 7, 5):
            cells = laid(Program(*parts))
            for s, stage in enumerate(parts[3]):
                self.assertEqual(read_stage(cells, s), stage)

    def test_cells_that_are_no_tile(self):
        wire, other = shape_at("wire", 1), shape_at("down", 3)
        for more, wanted in (
            (((0, 0),), (("wire", 1), ("down", 3))), (((0, 1),), (0, 1)), (((1, 0),), (1, 0)), (((19, 40),), (19, 40)),
            (((0, 0), (0, 1)), (0, 0)), (((0, -4),), (0, -4)), (((0, 80), (0, 88), (0, 97)), (0, 97)), (((4, 4), (0, 65)), (0, 65)),
            (((0, 9),), (0, 8)), (((5, 40), (3, 44)), (3, 44)), (((0, -8), (3, -5)), (("wire", 1), ("down", 3))),
            (((20, 1), (-1, 2)), (("wire", 1), ("down", 3))),
        ):
            told = read_stage(wire + other + more, 0)
            self.assertEqual(told.cell if isinstance(told, NotOurs) else told, wanted)
            self.assertEqual(plain_read_stage(wire + other + more, 0), wanted)

    def test_two_tiles_at_one_row(self):
        """Both are told; they are no stage."""
        cells = shape_at("down", 1) + shape_at("down", 0)
        self.assertEqual(self.assert_stage(cells, 0), (("down", 0), ("down", 1)))

    def test_random_cells(self):
        chance = random.Random(5)
        for stage in all_stages(3)[::4]:
            cells = list(laid(Program(3, (0, 1), (), ((), stage), (), (2,))))
            for _ in range(3):
                at = chance.randrange(len(cells) + 1)
                bent = cells[:at] + cells[at + 1:]
                more = (chance.randrange(18, 42), chance.randrange(-6, 20))
                if more not in bent and chance.random() < 0.7:
                    bent.append(more)
                self.assert_stage(tuple(bent), 1)


class Objects(Asking):
    def test_fields(self):
        for make, name in ((Read, "program"), (NotOurs, "cell")):
            self.assertEqual(vars(make([1, [2]])), {name: (1, [2])})
            for value in strange_values():
                if not isinstance(value, list):
                    self.assertIs(getattr(make(value), name), value)
            self.assert_only_itself_equal(lambda make=make: make(None))


class Boards(Asking):
    def assert_read(self, board):
        told = self.assert_unchanged(read_board, board)
        self.assertIs(is_read(board, told), True)
        if isinstance(told, Read):
            program = told.program
            self.assertEqual(plain_lean(parts_of(program)), parts_of(program))
            self.assertIsNone(plain_first_wrong(parts_of(program), board))
            again = read_board(board).program
            self.assertTrue(again == program)
            for cell in (None, (0, 0), (1, 2)):
                self.assertIs(is_read(board, NotOurs(cell)), False)
            return program
        self.assertIs(told.__class__, NotOurs)
        for cell in (told.cell, None, (0, 0), Strange()):
            self.assertIs(is_read(board, NotOurs(cell)), True)
        return None

    def test_boards_of_programs(self):
        """Fact C."""
        for parts in some_board_parts(6, 60) + [TOGGLE, TWO]:
            wider = (parts[0] + 2,) + parts[1:]
            for board in (board_of(Program(*parts)), board_of(Program(*wider)), otherwise(parts, 2, 5)[0]):
                self.assertEqual(parts_of(self.assert_read(board)), plain_lean(parts))

    def test_boards_of_circuits(self):
        for number, plan in enumerate(some_plans(7, 25, 3, 2, 4, 3)):
            circuit, rows = Circuit(*plan), rows_of_bits(number, plan[0], 3)
            board = board_for(circuit)
            program = self.assert_read(board)
            self.assertTrue(program == lean(program_of(circuit)))
            self.assertEqual(plain_played(parts_of(program), rows), shown(board, rows))

    def test_boards_that_the_tests_made(self):
        """The main fact holds for what is read, whoever made the board."""
        for number, parts in enumerate(some_board_parts(8, 20, 4, 3)):
            board = otherwise(parts, number % 4, number)[0]
            program, rows = self.assert_read(board), rows_of_bits(number, len(parts[1]), 3)
            self.assertEqual(plain_played(parts_of(program), rows), shown(board, rows))

    def test_no_boards_of_programs(self):
        board = board_of(Program(*TWO))
        last = board.delay
        for parts in (
            {"delay": 0}, {"delay": last + 20}, {"delay": last - 20}, {"delay": last - 1}, {"entries": ((0, 0),)},
            {"entries": ((5, 0),)}, {"exits": ()}, {"exits": board.exits + ((last, 0),)}, {"exits": ((3, 0),)},
            {"cells": board.cells + ((30, 50),)}, {"cells": board.cells + ((30, -500),)}, {"period": board.period + 1},
            {"heads": ((5, 0),)}, {"tails": ()}, {"heads": ((0, 0), (0, 32))}, {"period": 1},
            {"cells": board.cells + ((-1, 16),)}, {"cells": board.cells + ((last, 48),)},
        ):
            self.assertIsNone(self.assert_read(changed(board, **parts)))

    def test_what_is_read_of_another_board(self):
        """Other resets, entries and exits of a board make another program of it."""
        board = board_of(Program(*TWO))
        program = self.assert_read(changed(board, heads=((0, 32),), tails=((-1, 32),)))
        self.assertEqual(program.registers, ((0, 0), (4, 1)))
        self.assertEqual(self.assert_read(changed(board, entries=())).inputs, ())
        longer = changed(board, cells=board.cells + ((0, 48),), entries=((0, 48),) + board.entries)
        self.assertEqual(self.assert_read(longer).inputs, (6, 2))
        self.assertEqual(self.assert_read(longer).rows, 7)

    def test_a_way_that_runs_by_the_ports(self):
        """Cells of a way at (-1, -8) and (0, -8), above the field, are those of no register."""
        parts = (2, (), ((0, 1), (1, 0)), ((("wire", 0), ("wire", 1)),), (0, 1), ())
        for out in range(3):
            for more in range(9):
                board = otherwise(parts, out, more)[0]
                self.assertEqual(parts_of(self.assert_read(board)), parts)

    def test_a_way_beside_the_field(self):
        """Its cells at (-1, 0) and (-1, 8) are next to no ports."""
        self.assertEqual(parts_of(self.assert_read(beside_the_field()[0])), BESIDE)

    def test_random_boards(self):
        chance = random.Random(9)
        for _ in range(150):
            board = random_board(chance)
            self.assert_read(changed(board, delay=chance.choice((0, 3, 20, 40))))

    def test_bent_boards(self):
        chance = random.Random(10)
        for parts in some_board_parts(11, 25, 4, 2):
            board = board_of(Program(*parts))
            free = [cell for cell in board.cells if cell not in board.heads + board.tails + board.entries + board.exits]
            for cell in chance.sample(free, min(len(free), 8)):
                self.assert_read(changed(board, cells=[other for other in board.cells if other != cell]))
                near = chance.choice(plain_neighbours(cell))
                if near not in board.cells:
                    self.assert_read(changed(board, cells=board.cells + (near,)))

    def test_empty_boards(self):
        program = self.assert_read(Board((), (), (), (), (), 24, 20))
        self.assertEqual(parts_of(program), (1, (), (), ((),), (), ()))
        self.assertEqual(parts_of(self.assert_read(Board((), (), (), (), (), 99, 60)))[3], ((), (), ()))
        for period, delay in ((24, 0), (23, 20), (24, 19), (24, 40)):
            self.assertIsNone(self.assert_read(Board((), (), (), (), (), period, delay)))


class Judging(Asking):
    def test_any_value(self):
        ours, other = board_of(Program(*TWO)), Board(((0, 0),), (), (), (), (), 1, 0)
        program = read_board(ours).program
        for value in strange_values() + [program, parts_of(program), [Read(program)], Read, NotOurs, "Read", Strange(), ours]:
            for board in (ours, other):
                self.assertIs(is_read(board, value), False)
                self.assertIs(is_read(board, Read(value) if value is not program else value), False)
            self.assertIs(is_read(ours, NotOurs(value)), False)
            self.assertIs(is_read(other, NotOurs(value)), True)

    def test_programs_that_are_not_lean_or_others(self):
        board = board_of(Program(*TWO))
        rows, inputs, registers, stages, nexts, outs = TWO
        self.assertIs(is_read(board, Read(Program(*TWO))), True)
        for parts in (
            (rows + 1, inputs, registers, stages, nexts, outs), (rows, inputs, registers[::-1], stages, nexts[::-1], outs),
            (rows, inputs, ((0, 0), (4, 0)), stages, nexts, outs), (rows, inputs, registers, stages + ((),), nexts, outs),
            (rows, inputs, registers, stages, nexts, ()), (1, (), (), (), (), ()),
        ):
            self.assertIs(is_read(board, Read(Program(*parts))), False)

    def test_like_objects(self):
        board = board_of(Program(*TWO))

        class LikeRead:
            program = Program(*TWO)

        class LikeProgram:
            rows, inputs, registers, stages, nexts, outs = TWO

        self.assertIs(is_read(board, LikeRead()), False)
        self.assertIs(is_read(board, Read(LikeProgram())), False)


class Sizes(Asking):
    def test_20000_cells(self):
        stages = random_stages(random.Random(12), 8, 80, 0)
        parts = (8, (0, 2), ((1, 1), (3, 0)), stages, (0, 2), (1,))
        board = board_of(Program(*parts))
        self.assertLess(len(board.cells), 20000)
        self.assertGreater(len(board.cells), 12000)
        for _ in range(3):
            told = read_board(board)
            self.assertEqual(parts_of(told.program), plain_lean(parts))
            self.assertIs(is_read(board, told), True)

    def test_a_delay_of_20000(self):
        stages = ((("wire", 0),),) * 1000
        board = board_of(Program(1, (), ((0, 1),), stages, (0,), ()))
        self.assertEqual(board.delay, 20000)
        self.assertEqual(read_board(board).program.stages, stages)
        lone = Board(((0, 0), (20000, 8)), (), (), ((0, 0),), ((20000, 8),), 20000, 20000)
        self.assertEqual(len(read_board(lone).program.stages), 1000)

    def test_many_pieces(self):
        cells = tuple((x, y) for x in range(0, 200, 2) for y in range(0, 400, 2))
        self.assertEqual(len(cells), 20000)
        self.assertEqual(len(pieces_of(cells, 3)), 2000)
        self.assertEqual(read_stage(cells, 3).cell, (60, 2))
        whole = tuple((x, y) for x in range(20) for y in range(1000))
        self.assertEqual(pieces_of(whole, 0), (whole,))
        self.assertIs(is_read(Board(cells, (), (), (), (), 200, 200), NotOurs(None)), True)
        ports = tuple((20 * s, 8 * row) for s in range(20) for row in range(1000))
        self.assertEqual(read_stage(ports, 5), ())

    def test_far_rows(self):
        parts = (2501, (2500,), (), ((("wire", 2500),), (("up", 2500),)), (), (2499,))
        told = read_board(board_of(Program(*parts)))
        self.assertEqual(parts_of(told.program), parts)
        self.assertEqual(plain_top(("up", 2500)), 2499)
