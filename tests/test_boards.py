"""[43] to [46]: boards of programs and circuits, and what they show."""

import random

from sparkboard.boards import Board, board_for, board_of, exit_heads, shown
from sparkboard.cells import Stand
from sparkboard.circuits import Circuit, run
from sparkboard.errors import BadNumber, BadRow
from sparkboard.making import program_of
from sparkboard.paths import period_of, ways
from sparkboard.programs import Program, played
from tests.asking import Asking
from tests.plain import Strange, only_tuples, plain_run, random_plan, rows_of_bits, some_plans, strange_values, wrong_counts
from tests.plain_boards import (
    plain_exit_heads, plain_first_wrong, plain_gates, plain_laid, plain_moments, plain_resets, plain_shown, some_board_parts,
)
from tests.plain_tiles import plain_played, random_stages
from tests.test_placing import TOGGLE
from tests.test_stands import NO_ROWS_OF_CELLS

ATTRIBUTES = ("cells", "heads", "tails", "entries", "exits", "period", "delay")
WIRE = tuple((x, 0) for x in range(8))
# A wire with one entry and two exits.
PARTS = (WIRE, ((3, 0),), ((2, 0),), ((0, 0),), ((7, 0), (4, 0)), 10, 7)


def board_parts(board):
    return tuple(getattr(board, name) for name in ATTRIBUTES)


def no_rows_of(many):
    """Values that are no row of rows, each of so many bits; many is 2."""
    return strange_values() + [
        ((),), ((0,),), ((0, 0, 0),), ((2, 0),), ((0, 0), (0, True)), [[0, 1], [False, 0]], ((0, 0), 0), (0, 0), "00",
        ((0, 1), None), {(0, 0)}, ((0, 0), Strange()), ((-1, 0),), ((1, 0), (1,)), 0, ((1.0, 0),),
    ]


class Objects(Asking):
    def test_attributes(self):
        board = Board([[1, 0], (0, 0), [2, 5]], [[2, 5]], [(1, 0)], [[2, 5], (0, 0)], [(1, 0), [0, 0]], 3, 0)
        self.assertEqual(
            board_parts(board),
            (((0, 0), (1, 0), (2, 5)), ((2, 5),), ((1, 0),), ((2, 5), (0, 0)), ((1, 0), (0, 0)), 3, 0),
        )
        self.assertTrue(only_tuples(board_parts(board)))
        self.assertEqual(set(vars(board)), set(ATTRIBUTES))
        self.assertEqual(board_parts(Board((), (), [], (), [], 1, 0)), ((), (), (), (), (), 1, 0))
        self.assertEqual(Board(cells=WIRE, heads=(), tails=(), entries=(), exits=(), period=1, delay=2).delay, 2)

    def test_ascending_but_for_entries_and_exits(self):
        chance = random.Random(1)
        for _ in range(50):
            cells = list({(chance.randrange(9), chance.randrange(9)) for _ in range(20)})
            heads, tails = cells[:5], cells[5:9]
            entries, exits = chance.sample(cells, 4), chance.sample(cells, 3)
            board = self.assert_unchanged(Board, cells, heads, tails, entries, exits, 7, 7)
            self.assertEqual(board_parts(board)[:3], tuple(tuple(sorted(row)) for row in (cells, heads, tails)))
            self.assertEqual(board_parts(board)[3:5], (tuple(entries), tuple(exits)))

    def test_lists_are_copied(self):
        given = [[[0, 0], [1, 0], [2, 0]], [[0, 0]], [[1, 0]], [[2, 0]], [[0, 0]]]
        board = Board(*given, 1, 1)
        for row in given:
            row[0][0] = 77
            row.append([5, 5])
        self.assertEqual(board_parts(board)[:5], (((0, 0), (1, 0), (2, 0)), ((0, 0),), ((1, 0),), ((2, 0),), ((0, 0),)))

    def test_wrong_cells(self):
        for wrong in NO_ROWS_OF_CELLS:
            self.assert_error(BadRow, (wrong,), Board, wrong, None, None, None, None, None, None)

    def test_wrong_heads_tails_entries_and_exits(self):
        for at in range(1, 5):
            for wrong in NO_ROWS_OF_CELLS + [((0, 1),), [[8, 0]], ((3, 0), (-1, 0)), ((5, 0), (5, 0))]:
                parts = list(PARTS)
                parts[at] = wrong
                self.assert_error(BadRow, (wrong,), Board, *parts)
                self.assert_error(BadRow, (wrong,), Board, *parts[:at + 1], *[None] * (6 - at))

    def test_a_head_that_is_a_tail(self):
        for tails in (((3, 0),), [[1, 0], [3, 0]]):
            self.assert_error(BadRow, (tails,), Board, WIRE, PARTS[1], tails, None, None, None, None)

    def test_a_cell_may_be_an_entry_an_exit_and_a_head(self):
        for heads, tails in ((((0, 0),), ()), ((), ((0, 0),))):
            board = Board(WIRE, heads, tails, ((0, 0),), ((0, 0),), 1, 0)
            self.assertEqual((board.entries, board.exits), (((0, 0),), ((0, 0),)))

    def test_wrong_numbers(self):
        for wrong in wrong_counts() + [0]:
            self.assert_error(BadNumber, ("period", wrong), Board, *PARTS[:5], wrong, None)
        for wrong in wrong_counts():
            self.assert_error(BadNumber, ("delay", wrong), Board, *PARTS[:6], wrong)

    def test_equal(self):
        one = Board(*PARTS)
        self.assertTrue(one == one)
        self.assertTrue(one == Board([list(cell) for cell in WIRE[::-1]], *PARTS[1:]))
        self.assertFalse(one != Board(*PARTS))
        for at, other in (
            (0, WIRE + ((0, 5),)), (1, ()), (1, ((4, 0),)), (2, ()), (2, ((1, 0),)), (3, ()), (3, ((1, 0),)), (4, ((4, 0), (7, 0))),
            (4, ((7, 0),)), (5, 11), (6, 8),
        ):
            changed = list(PARTS)
            changed[at] = other
            self.assertFalse(one == Board(*changed))
            self.assertTrue(one != Board(*changed))

    def test_equal_to_no_other_kind(self):
        class Like:
            cells, heads, tails, entries, exits, period, delay = PARTS

        for other in (Like(), PARTS, None, 1, Strange(), Stand((), ())):
            self.assertFalse(Board(*PARTS) == other)
            self.assertTrue(Board(*PARTS) != other)


def random_board(chance):
    """A board of any cells, with up to three entries and exits."""
    width, height = chance.randrange(1, 7), chance.randrange(1, 5)
    filled = chance.choice((0.4, 0.7, 1))
    cells = [(x, y) for x in range(width) for y in range(height) if chance.random() < filled]
    kinds = [chance.choice("...HT") for _ in cells]
    return Board(
        cells, [cell for cell, kind in zip(cells, kinds) if kind == "H"],
        [cell for cell, kind in zip(cells, kinds) if kind == "T"],
        chance.sample(cells, min(len(cells), chance.randrange(4))), chance.sample(cells, min(len(cells), chance.randrange(4))),
        chance.randrange(1, 12), chance.randrange(0, 30),
    )


class Showing(Asking):
    def test_a_wire(self):
        board = Board(WIRE, (), (), ((0, 0),), ((7, 0), (4, 0)), 10, 7)
        self.assertEqual(shown(board, ((1,), (0,), (1,))), ((1, 0), (0, 0), (1, 0)))
        self.assertEqual(exit_heads(board, ((1,), (0,), (1,)), 40), ((4, 1), (7, 0), (24, 1), (27, 0)))
        self.assertEqual(exit_heads(board, [[1], (0,), [1]], 27), ((4, 1), (7, 0), (24, 1)))
        self.assertEqual(exit_heads(board, ((1,),), 0), ())

    def test_no_rows(self):
        board = Board(*PARTS)
        self.assertEqual((shown(board, ()), shown(board, [])), ((), ()))
        self.assertEqual(exit_heads(board, (), 20), ((1, 1), (4, 0)))
        still = Board(WIRE, (), (), (), ((0, 0),), 3, 3)
        self.assertEqual(shown(still, ((), (), ())), ((0,), (0,), (0,)))
        self.assertEqual(exit_heads(still, (), 10 ** 5), ())

    def test_an_entry_that_is_not_bare_is_left_out(self):
        board = Board(WIRE, (), ((0, 0),), ((0, 0),), ((0, 0), (1, 0)), 2, 0)
        self.assertEqual(exit_heads(board, ((1,), (1,)), 9), ((2, 0), (3, 1)))
        board = Board(WIRE, (), (), ((0, 0),), ((0, 0), (7, 0)), 1, 0)
        self.assertEqual(exit_heads(board, ((1,),) * 4, 12), ((0, 0), (2, 0), (7, 1)))

    def test_those_put_in_at_this_moment_count(self):
        board = Board(WIRE, (), (), ((0, 0), (2, 0)), ((2, 0), (0, 0)), 10, 0)
        self.assertEqual(shown(board, ((1, 0), (0, 1), (0, 0), (1, 1))), ((0, 1), (1, 0), (0, 0), (1, 1)))
        board = Board(WIRE, (), (), ((0, 0),), ((0, 0),), 10, 10)
        self.assertEqual(shown(board, ((0,), (1,), (1,), (0,))), ((1,), (1,), (0,), (0,)))

    def test_delay_above_the_period(self):
        board = Board(WIRE, (), (), ((0, 0),), ((7, 0),), 3, 7)
        self.assertEqual(shown(board, ((1,), (0,), (1,), (1,))), ((1,), (0,), (1,), (1,)))

    def test_random_boards(self):
        chance = random.Random(2)
        for number in range(300):
            board = random_board(chance)
            rows = rows_of_bits(number, len(board.entries), chance.randrange(6))
            told = self.assert_unchanged(shown, board, rows)
            self.assertEqual(told, plain_shown(board, rows))
            self.assertEqual(shown(board, [list(row) for row in rows]), told)
            heads = self.assert_unchanged(exit_heads, board, [list(row) for row in rows], 60)
            self.assertEqual(heads, plain_exit_heads(board, rows, 60))
            self.assertTrue(only_tuples((told, heads)))

    def test_wrong_rows(self):
        board = Board(WIRE, (), (), ((0, 0), (2, 0)), (), 10, 0)
        for rows in no_rows_of(2):
            self.assert_error(BadRow, (rows,), shown, board, rows)
            self.assert_error(BadRow, (rows,), exit_heads, board, rows, 7)
            self.assert_error(BadRow, (rows,), exit_heads, board, rows, None)

    def test_wrong_moments(self):
        for moments in wrong_counts():
            self.assert_error(BadNumber, ("moments", moments), exit_heads, Board(*PARTS), ((1,),), moments)


class Made(Asking):
    def assert_made(self, parts):
        """[44], word by word; told so that any ways that fit would do."""
        program = Program(*parts)
        board = self.assert_unchanged(board_of, program)
        self.assertIs(board.__class__, Board)
        width = 20 * len(parts[3])
        self.assertEqual(board.delay, width)
        self.assertEqual((board.entries, board.exits), plain_gates(parts))
        self.assertEqual((board.heads, board.tails), plain_resets(parts))
        loops = sorted((row, behind) for (row, _), behind in zip(parts[2], parts[4]))
        told = ways(width, -4, [8 * behind for _, behind in loops], [8 * row for row, _ in loops], max(24 - width, 0))
        self.assertEqual(board.period, period_of(width, told) if loops else max(width, 24))
        self.assertEqual(set(board.cells), set(plain_laid(parts)) | {cell for path in told.paths for cell in path})
        self.assertIsNone(plain_first_wrong(parts, board))
        self.assertTrue(board_of(program) == board)
        return board

    def test_random_programs(self):
        for parts in some_board_parts(3, 60):
            self.assert_made(parts)

    def test_no_registers(self):
        wire = ((("wire", 0),),)
        for many, period in ((1, 24), (2, 40), (3, 60)):
            board = self.assert_made((1, (0,), (), wire * many, (), (0,)))
            self.assertEqual((board.period, board.delay), (period, 20 * many))
            self.assertEqual(board.cells, tuple((x, 0) for x in range(20 * many + 1)))

    def test_bare_stages(self):
        board = self.assert_made((3, (2,), (), ((), ()), (), (1,)))
        self.assertEqual(board.cells, ((0, 16), (40, 8)))
        self.assertEqual(self.assert_made((1, (), (), ((),), (), ())).cells, ())

    def test_resets(self):
        parts = (5, (), ((4, 1), (0, 1), (2, 0)), ((("wire", 0), ("wire", 2), ("wire", 4)),), (4, 0, 2), ())
        board = self.assert_made(parts)
        self.assertEqual((board.heads, board.tails), (((0, 0), (0, 32)), ((-1, 0), (-1, 32))))

    def test_nexts_that_do_not_ascend(self):
        wires = (tuple(("wire", row) for row in range(5)),)
        for registers, nexts in (
            (((0, 0), (2, 1)), (1, 0)), (((2, 0), (0, 1)), (0, 1)), (((0, 0), (1, 0), (2, 0)), (0, 2, 1)),
            (((4, 0), (1, 0), (2, 0)), (4, 2, 0)),
        ):
            self.assert_error(BadRow, (nexts,), board_of, Program(5, (), registers, wires, nexts, ()))
        for registers, nexts in (
            (((0, 0), (2, 1)), (0, 1)), (((2, 0), (0, 1)), (1, 0)), (((0, 0), (1, 0), (2, 0)), (0, 3, 4)),
            (((4, 0), (1, 0), (2, 0)), (4, 0, 2)),
        ):
            self.assert_made((5, (), registers, wires, nexts, ()))

    def test_board_for(self):
        for plan in some_plans(4, 30, 2, 2, 3, 2):
            circuit = Circuit(*plan)
            board = self.assert_unchanged(board_for, circuit)
            self.assertTrue(board == board_of(program_of(circuit)))
            self.assertEqual(len(board.entries), plan[0])
            self.assertEqual(len(board.exits), len(plan[4]))
            self.assertTrue(board_for(Circuit(*plan)) == board)


class MainFact(Asking):
    """[45], on random programs and circuits; sparks are counted in the tests, too."""

    def assert_heads(self, board, rows, outs, moments):
        """Exits are heads just where outs, cycle by cycle, are 1."""
        wanted = sorted(
            (number * board.period + board.delay, exit_number) for number, bits in enumerate(outs)
            for exit_number, bit in enumerate(bits) if bit
        )
        wanted = tuple((moment, exit_number) for moment, exit_number in wanted if moment < moments)
        self.assertEqual(exit_heads(board, rows, moments), wanted)
        return wanted

    def test_programs(self):
        for number, parts in enumerate(some_board_parts(5, 60)):
            program, rows = Program(*parts), rows_of_bits(number, len(parts[1]), 4)
            board = board_of(program)
            outs = plain_played(parts, rows + ((0,) * len(parts[1]),) * 3)
            self.assertEqual(shown(board, rows), outs[:4])
            self.assertEqual(shown(board, rows), played(program, rows))
            self.assert_heads(board, rows, outs, 6 * board.period)

    def test_programs_by_the_plain_rule(self):
        for number, parts in enumerate(some_board_parts(6, 25, 4, 3)):
            rows = rows_of_bits(number, len(parts[1]), 3)
            board = board_of(Program(*parts))
            outs = plain_played(parts, rows + ((0,) * len(parts[1]),) * 2)
            wanted = self.assert_heads(board, rows, outs, 4 * board.period)
            self.assertEqual(plain_exit_heads(board, rows, 4 * board.period), wanted)
            self.assertEqual(plain_shown(board, rows), outs[:3])

    def test_circuits(self):
        for number, plan in enumerate(some_plans(7, 40, 3, 2, 4, 3)):
            circuit = Circuit(*plan)
            rows = rows_of_bits(number, plan[0], 4)
            outs = plain_run(plan, plan[1], rows + ((0,) * plan[0],) * 2)[0]
            board = board_for(circuit)
            self.assertEqual(shown(board, rows), outs[:4])
            self.assertEqual(shown(board, rows), run(circuit, rows))
            self.assert_heads(board, rows, outs, 5 * board.period)

    def test_circuits_by_the_plain_rule(self):
        for plan, rows in (
            ((1, (0,), (("xor", 0, 1),), (2,), (2,)), ((1,), (0,), (1,))), ((0, (1, 0), (), (1, 0), (0,)), ((), (), ())),
            ((2, (), (("not", 0), ("and", 1, 2)), (), (3,)), ((0, 1), (1, 1), (0, 0))), ((0, (), (("one",),), (), (0,)), ((), ())),
        ):
            board = board_for(Circuit(*plan))
            self.assertEqual(plain_shown(board, rows), plain_run(plan, plan[1], rows)[0])

    def test_why(self):
        """At n * period + s * WIDTH sparks in the field stand on borders; an entry is bare when a row comes."""
        for number, parts in enumerate(some_board_parts(8, 15, 4, 3)):
            board, rows = board_of(Program(*parts)), rows_of_bits(number, len(parts[1]), 3)
            width = 20 * len(parts[3])
            stands = plain_moments(board, rows, 3 * board.period)
            borders = [(cycle * board.period + 20 * s, 20 * s) for cycle in range(3) for s in range(len(parts[3]) + 1)]
            for moment in {moment for moment, _ in borders if moment <= 3 * board.period}:
                inner = {x for x, y in stands[moment][0] if 0 <= x <= width and y >= -4}
                self.assertLessEqual(inner, {x for at, x in borders if at == moment})
            for cycle in range(3):
                _, tails = stands[cycle * board.period]
                self.assertFalse(tails & set(board.entries))


class Sizes(Asking):
    def test_the_largest_circuits(self):
        chance = random.Random(9)
        for number in range(12):
            regs = number % 6
            plan = random_plan(chance, 5 - regs, regs, 6, 3)
            circuit, rows = Circuit(*plan), rows_of_bits(number, 5 - regs, 5)
            self.assertEqual(shown(board_for(circuit), rows), plain_run(plan, plan[1], rows)[0])

    def test_the_kinds_that_need_most(self):
        for kind in ("and", "not", "xor"):
            gates = [(kind, k) if kind == "not" else (kind, 5 + k - 1 if k else 0, k % 5) for k in range(6)]
            circuit = Circuit(2, (0, 1, 1), gates, (10, 9, 8), (10, 9, 8))
            board, rows = board_for(circuit), rows_of_bits(1, 2, 5)
            self.assertEqual(shown(board, rows), run(circuit, rows))
            outs = run(circuit, rows + ((0, 0),) * 40)
            wanted = tuple((number * board.period + board.delay, at) for number, bits in enumerate(outs)
                           for at, bit in enumerate(bits) if bit)
            told = exit_heads(board, rows, 100000)
            self.assertEqual(told, tuple(pair for pair in wanted if pair[0] < 100000))

    def test_60_stages_of_12_rows(self):
        stages = random_stages(random.Random(10), 12, 60, 0)
        parts = (12, (0, 2, 4, 6, 8, 10), ((1, 1), (3, 0), (5, 1), (7, 1), (9, 0), (11, 1)), stages, (0, 2, 4, 6, 8, 10), (1, 3))
        board, rows = board_of(Program(*parts)), rows_of_bits(11, 6, 5)
        self.assertIsNone(plain_first_wrong(parts, board))
        self.assertEqual(shown(board, rows), plain_played(parts, rows))

    def test_100000_cells_and_long_periods(self):
        cells = tuple((x, y) for x in range(20000) for y in range(0, 10, 2))
        board = Board(cells, ((0, 0),), (), ((0, 2), (0, 4)), ((19999, 2), (19999, 4), (19999, 0)), 20000, 19999)
        rows = ((1, 0), (0, 1), (1, 1), (0, 0), (1, 0))
        self.assertEqual(shown(board, rows), ((1, 0, 1), (0, 1, 0), (1, 1, 0), (0, 0, 0), (1, 0, 0)))
        self.assertEqual(
            exit_heads(board, rows, 100000), ((19999, 0), (19999, 2), (39999, 1), (59999, 0), (59999, 1), (99999, 0)),
        )
