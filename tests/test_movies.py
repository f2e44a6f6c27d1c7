"""[57] to [59]: what is seen on a board at told moments."""

import random

from sparkboard.boards import Board, board_for, board_of, exit_heads
from sparkboard.cells import Stand
from sparkboard.circuits import Circuit
from sparkboard.errors import BadCell, BadNumber, BadRow
from sparkboard.movies import movie, probe, reel, stand_at
from sparkboard.pictures import read_picture
from sparkboard.programs import Program
from tests.asking import Asking
from tests.plain import Strange, only_tuples, plain_run, plain_step, rows_of_bits, some_plans, strange_values, wrong_counts
from tests.plain_boards import plain_moments, some_board_parts
from tests.test_boards import PARTS, WIRE, no_rows_of, random_board

TWO_ENTRIES = Board(WIRE, (), (), ((0, 0), (4, 0)), ((7, 0),), 10, 7)


def pairs_of(stands):
    """Stands as pairs of ascending heads and tails."""
    return [(stand.heads, stand.tails) for stand in stands]


def ascending(stands):
    return [(tuple(sorted(heads)), tuple(sorted(tails))) for heads, tails in stands]


class Moments(Asking):
    def test_a_wire(self):
        rows = ((1, 0), [0, 1])
        for moment, heads, tails in (
            (0, ((0, 0),), ()), (1, ((1, 0),), ((0, 0),)), (7, ((7, 0),), ((6, 0),)), (8, (), ((7, 0),)), (9, (), ()),
            (10, ((4, 0),), ()), (11, ((3, 0), (5, 0)), ((4, 0),)), (14, ((0, 0),), ((1, 0), (7, 0))), (15, (), ((0, 0),)), (99, (), ()),
        ):
            told = stand_at(TWO_ENTRIES, rows, moment)
            self.assertIs(told.__class__, Stand)
            self.assertEqual(told, Stand(heads, tails))

    def test_entries_that_are_not_bare_are_left_out(self):
        board = Board(WIRE, (), ((0, 0),), ((0, 0),), (), 1, 0)
        self.assertEqual(stand_at(board, ((1,),), 0), Stand((), ((0, 0),)))
        self.assertEqual(stand_at(board, ((1,), (1,), (1,)), 2), Stand(((1, 0),), ((0, 0),)))

    def test_random_boards(self):
        chance = random.Random(1)
        for number in range(120):
            board = random_board(chance)
            rows = rows_of_bits(number, len(board.entries), chance.randrange(6))
            listed = [list(row) for row in rows]
            stands = ascending(plain_moments(board, rows, 50))
            moments = sorted(chance.sample(range(51), chance.randrange(12)))
            told = self.assert_unchanged(movie, board, listed, moments)
            self.assertIs(told.__class__, tuple)
            self.assertEqual(pairs_of(told), [stands[moment] for moment in moments])
            for moment in moments[:3]:
                self.assertEqual(pairs_of([self.assert_unchanged(stand_at, board, listed, moment)]), [stands[moment]])
            for cell in board.cells[:4]:
                last = chance.randrange(51)
                seen = tuple(moment for moment in range(last + 1) if cell in stands[moment][0])
                self.assertEqual(self.assert_unchanged(probe, board, listed, list(cell), last), seen)
                self.assertEqual(probe(board, rows, cell, last), seen)

    def test_one_step_behind_the_other(self):
        """The first fact of [58]."""
        chance = random.Random(2)
        for number in range(60):
            board = random_board(chance)
            rows = rows_of_bits(number, len(board.entries), 4)
            for moment in range(20):
                stand, behind = stand_at(board, rows, moment), stand_at(board, rows, moment + 1)
                heads, tails = plain_step(board.cells, set(stand.heads), set(stand.tails))
                cycle, left = divmod(moment + 1, board.period)
                if left == 0 and cycle < len(rows):
                    heads |= {cell for cell, bit in zip(board.entries, rows[cycle]) if bit and cell not in tails}
                self.assertEqual((set(behind.heads), set(behind.tails)), (heads, tails))

    def test_probes_of_exits(self):
        """The second fact of [58]."""
        for number, plan in enumerate(some_plans(3, 25, 2, 2, 3, 2)):
            board, rows = board_for(Circuit(*plan)), rows_of_bits(number, plan[0], 3)
            outs = plain_run(plan, plan[1], rows + ((0,) * plan[0],) * 2)[0]
            last = 4 * board.period
            for at, cell in enumerate(board.exits):
                wanted = tuple(cycle * board.period + board.delay for cycle, bits in enumerate(outs)
                               if bits[at] and cycle * board.period + board.delay <= last)
                self.assertEqual(probe(board, rows, cell, last), wanted)

    def test_probes_are_exit_heads(self):
        for number, parts in enumerate(some_board_parts(4, 20)):
            board, rows = board_of(Program(*parts)), rows_of_bits(number, len(parts[1]), 3)
            told = exit_heads(board, rows, 3 * board.period + 1)
            for at, cell in enumerate(board.exits):
                seen = tuple(moment for moment, exit_number in told if exit_number == at)
                self.assertEqual(probe(board, rows, cell, 3 * board.period), seen)

    def test_the_first_and_the_last_moment(self):
        self.assertEqual(probe(TWO_ENTRIES, ((1, 0),), (0, 0), 0), (0,))
        self.assertEqual(probe(TWO_ENTRIES, ((1, 0),), (7, 0), 6), ())
        self.assertEqual(probe(TWO_ENTRIES, ((1, 0),), (7, 0), 7), (7,))
        self.assertEqual(probe(TWO_ENTRIES, ((0, 0), (1, 0)), (0, 0), 10), (10,))
        self.assertEqual(probe(TWO_ENTRIES, ((0, 0), (1, 0)), (0, 0), 9), ())
        self.assertEqual(movie(TWO_ENTRIES, (), ()), ())
        self.assertEqual(pairs_of(movie(TWO_ENTRIES, (), [0, 10 ** 6])), [((), ()), ((), ())])


class Reels(Asking):
    def test_a_wire(self):
        board = Board(((0, 0), (1, 0), (2, 1)), (), (), ((0, 0),), (), 5, 0)
        text = "moment 0\nH#.\n..#\nmoment 2\n#T.\n..H\nmoment 5\nH#.\n..#\n"
        self.assertEqual(reel(board, ((1,), (1,)), (0, 2, 5)), text)
        self.assertEqual(reel(board, [[1], (1,)], [0, 2, 5]), text)
        self.assertEqual(reel(board, (), ()), "")

    def test_from_corner_to_corner(self):
        board = Board(((-3, 5), (-2, 4)), ((-3, 5),), (), (), (), 9, 0)
        self.assertEqual(reel(board, (), (0, 1, 12)), "moment 0\n.#\nH.\nmoment 1\n.H\nT.\nmoment 12\n.#\n#.\n")

    def test_random_boards(self):
        chance = random.Random(5)
        for number in range(60):
            board = random_board(chance)
            if not board.cells:
                continue
            rows = rows_of_bits(number, len(board.entries), 3)
            moments = tuple(sorted(chance.sample(range(40), 4)))
            text = self.assert_unchanged(reel, board, rows, moments)
            low = (min(x for x, _ in board.cells), min(y for _, y in board.cells))
            high = max(y for _, y in board.cells)
            lines = text.split("\n")
            self.assertEqual(lines.pop(), "")
            each = high - low[1] + 2
            self.assertEqual(len(lines), 4 * each)
            for at, (moment, stand) in enumerate(zip(moments, movie(board, rows, moments))):
                self.assertEqual(lines[at * each], f"moment {moment}")
                cells, read = read_picture("\n".join(lines[at * each + 1:(at + 1) * each]))
                self.assertEqual(tuple((x + low[0], y + low[1]) for x, y in cells), board.cells)
                self.assertEqual({(x + low[0], y + low[1]) for x, y in read.heads}, set(stand.heads))
                self.assertEqual({(x + low[0], y + low[1]) for x, y in read.tails}, set(stand.tails))


class Wrong(Asking):
    def test_rows(self):
        for rows in no_rows_of(2):
            for number in (3, None):
                self.assert_error(BadRow, (rows,), stand_at, TWO_ENTRIES, rows, number)
                self.assert_error(BadRow, (rows,), movie, TWO_ENTRIES, rows, number)
                self.assert_error(BadRow, (rows,), reel, TWO_ENTRIES, rows, (number,))
                self.assert_error(BadRow, (rows,), probe, TWO_ENTRIES, rows, (0, 0), number)
                self.assert_error(BadRow, (rows,), probe, TWO_ENTRIES, rows, None, number)

    def test_moment(self):
        for moment in wrong_counts():
            self.assert_error(BadNumber, ("moment", moment), stand_at, TWO_ENTRIES, ((0, 1),), moment)

    def test_moments(self):
        for moments in strange_values() + [
            (-1,), (0, 0), (3, 2), [1, 2, 2], (0, True), (False, 1), (1.0,), (0, None), ("0",), "012", {0, 1}, range(3), 5, (0, 1, -1),
            ((0,),), (0, Strange()), (2, 5, 4),
        ]:
            self.assert_error(BadRow, (moments,), movie, TWO_ENTRIES, (), moments)
            self.assert_error(BadRow, (moments,), reel, TWO_ENTRIES, [(0, 1)], moments)

    def test_cell(self):
        for cell in strange_values() + [
            (8, 0), [0, 1], (-1, 0), (0,), (0, 0, 0), (0.0, 0), (True, 0), (0, False), "00", {0: 0}, ((0, 0),), None, (0, Strange()),
        ]:
            for last in (3, None, -1):
                self.assert_error(BadCell, (cell,), probe, TWO_ENTRIES, ((0, 1),), cell, last)

    def test_last(self):
        for last in wrong_counts():
            self.assert_error(BadNumber, ("last", last), probe, Board(*PARTS), (), [0, 0], last)


class Sizes(Asking):
    def test_40000_moments(self):
        circuit = Circuit(1, (0, 1, 0), (("xor", 0, 1), ("xor", 2, 4), ("or", 3, 5), ("xor", 6, 5)), (4, 5, 7), (1, 2, 3))
        board, rows = board_for(circuit), ((1,), (0,), (1,))
        outs = plain_run(
            (1, circuit.resets, circuit.gates, circuit.nexts, circuit.outputs), circuit.resets, rows + ((0,),) * 99,
        )[0]
        for at, cell in enumerate(board.exits):
            wanted = [cycle * board.period + board.delay for cycle, bits in enumerate(outs) if bits[at]]
            self.assertEqual(probe(board, rows, cell, 40000), tuple(moment for moment in wanted if moment <= 40000))
        moments = tuple(range(0, 40000, 404))
        told = movie(board, rows, moments)
        self.assertEqual(len(told), 100)
        self.assertEqual(pairs_of([stand_at(board, rows, moments[99])]), pairs_of([told[99]]))
        stands = plain_moments(board, rows, moments[9])
        self.assertEqual(pairs_of(told[:10]), ascending(stands[moment] for moment in moments[:10]))
        self.assertTrue(only_tuples(pairs_of(told)[0]))

    def test_a_reel_of_100_moments(self):
        board = board_for(Circuit(1, (), (("not", 0),), (), (1,)))
        text = reel(board, ((0,), (1,)), tuple(range(0, 400, 4)))
        low, high = min(y for _, y in board.cells), max(y for _, y in board.cells)
        self.assertEqual(text.count("\n"), 100 * (high - low + 2))
