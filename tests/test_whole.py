"""[1], [58], [62] and what the document promises over the whole program: one circuit in all ways."""

import unittest

from sparkboard.boards import board_for, board_of, exit_heads, shown
from sparkboard.circuits import Alike, Circuit, alike, few, is_alike, lighter, run
from sparkboard.faults import Never, faulty, is_told, least_line
from sparkboard.judge import first_wrong, is_board, ways_on
from sparkboard.making import is_program_of, program_of, with_one
from sparkboard.movies import movie, probe, reel
from sparkboard.paths import Ways, are_ways
from sparkboard.pictures import picture, read_picture
from sparkboard.cells import Stand, later, moved
from sparkboard.placing import crossed, laid, live_rows
from sparkboard.programs import does, played
from sparkboard.reading import Read, is_read, lean, read_board
from sparkboard.texts import Spoken, spoken_of, text_of
from sparkboard.workshops import Workshop
from tests.plain import plain_run, rows_of_bits, some_plans
from tests.plain_boards import plain_exit_heads, plain_first_wrong, plain_shown
from tests.plain_tiles import parts_of, plain_played

TEXT = """
circuit counter
  input up
  reg low = 1
  reg high = 0
  first = low xor up
  carry = low and up
  second = high xor carry
  still = not up
  full = high and low
  next low = first
  next high = second
  output full still high
end
"""


class Whole(unittest.TestCase):
    def assert_whole(self, spoken, number):
        """Its cycles, its lighter one, its program, its board, the judge, the reader, its text and its workshop."""
        circuit, name = spoken.circuit, spoken.name
        plan = (circuit.inputs, circuit.resets, circuit.gates, circuit.nexts, circuit.outputs)
        rows = rows_of_bits(number, circuit.inputs, 4)
        outs = plain_run(plan, plan[1], rows)[0]
        self.assertEqual(run(circuit, rows), outs)
        for other in (few(circuit), lighter(circuit), with_one(circuit)):
            self.assertEqual(run(other, rows), outs)
            told = alike(circuit, other)
            self.assertIs(told.__class__, Alike)
            self.assertIs(is_alike(circuit, other, told), True)
        program = program_of(circuit)
        self.assertIs(does(program, with_one(circuit)) and is_program_of(circuit, program), True)
        self.assertEqual(played(program, rows), outs)
        self.assertEqual(plain_played(parts_of(program), rows), outs)
        board = board_for(circuit)
        self.assert_board(board, program, rows, outs)
        again = spoken_of(text_of(spoken))[0]
        self.assertEqual((again.name, again.names), (name, spoken.names))
        self.assertTrue(again.circuit == circuit)
        self.assertTrue(board_for(again.circuit) == board)
        shop = Workshop(text_of(spoken))
        self.assertEqual(shop.show(name, rows), outs)
        self.assertTrue(shop.board(name) == board)
        self.assertEqual(shop.kept(f"{name} same as {name}"), (True, None))
        return board

    def assert_board(self, board, program, rows, outs):
        self.assertTrue(board == board_of(program))
        self.assertEqual(shown(board, rows), outs)
        self.assertIsNone(first_wrong(program, board))
        self.assertIsNone(plain_first_wrong(parts_of(program), board))
        self.assertIs(is_board(program, board), True)
        read = read_board(board)
        self.assertIs(read.__class__, Read)
        self.assertTrue(read.program == lean(program))
        self.assertIs(is_read(board, read), True)
        self.assertEqual(played(read.program, rows), outs)
        last = len(rows) * board.period
        heads = exit_heads(board, rows, last + 1)
        for at, cell in enumerate(board.exits):
            seen = probe(board, rows, cell, last)
            self.assertEqual(seen, tuple(moment for moment, exit_number in heads if exit_number == at))
            wanted = [n * board.period + board.delay for n, bits in enumerate(outs) if bits[at]]
            self.assertEqual([moment for moment in seen if moment <= last - board.period + board.delay], wanted)
        paths = ways_on(program, board)
        if paths:
            starts = [8 * row for row in program.nexts]
            ends = [8 * row for row, _ in program.registers]
            steps = board.period - board.delay
            self.assertIs(are_ways(board.delay, -4, starts, ends, 0, Ways(steps, paths)), True)

    def test_a_counter(self):
        spoken = spoken_of(TEXT)[0]
        board = self.assert_whole(spoken, 1)
        rows = ((1,), (1,), (0,), (1,))
        self.assertEqual(shown(board, rows), ((0, 0, 0), (0, 0, 1), (1, 1, 1), (1, 0, 1)))
        self.assertEqual(plain_shown(board, rows), shown(board, rows))
        moments = 5 * board.period
        self.assertEqual(plain_exit_heads(board, rows, moments), exit_heads(board, rows, moments))

    def test_some_circuits(self):
        for number, plan in enumerate(some_plans(2, 30, 3, 2, 5, 3)):
            circuit = Circuit(*plan)
            if not plan[4]:
                continue
            names = tuple(f"s{k}" for k in range(plan[0] + len(plan[1]) + len(plan[2])))
            self.assert_whole(Spoken("some", names, circuit), number)

    def test_sparks_through_the_stages(self):
        """One cycle of the board is what crosses its program."""
        program = program_of(spoken_of(TEXT)[0].circuit)
        live = live_rows(program, 0)
        rows = tuple(tuple(number >> at & 1 for at in range(len(live))) for number in range(2 ** len(live)))
        last = live_rows(program, len(program.stages))
        for bits, told in zip(rows, crossed(program, rows, 30)):
            ahead = dict(zip(live, bits))
            state = [ahead[row] for row, _ in program.registers]
            inputs = [ahead[row] for row in program.inputs]
            plan = parts_of(program)[:2] + (tuple((row, bit) for (row, _), bit in zip(program.registers, state)),)
            plan += parts_of(program)[3:]
            behind = dict(zip(last, told))
            self.assertEqual(tuple(behind[row] for row in program.outs), plain_played(plan, (tuple(inputs),))[0])

    def test_a_board_and_its_picture(self):
        board = board_for(Circuit(1, (1,), (), (0,), (1,)))
        rows, moment = ((1,), (0,)), board.period + 7
        text = reel(board, rows, (moment,))
        low = (min(x for x, _ in board.cells), min(y for _, y in board.cells))
        high = (max(x for x, _ in board.cells), max(y for _, y in board.cells))
        stand = movie(board, rows, (moment,))[0]
        self.assertEqual(text, f"moment {moment}\n" + picture(board.cells, stand, low, high))
        cells, read = read_picture(text.split("\n", 1)[1])
        self.assertEqual(moved(cells, *low), board.cells)
        self.assertEqual(len(read.heads), len(stand.heads))
        lit = ((0, board.entries[0]),)
        self.assertEqual(later(board.cells, Stand(board.heads, board.tails), moment, lit), stand)

    def test_laid_cells_are_those_of_the_board(self):
        program = program_of(spoken_of(TEXT)[0].circuit)
        board = board_of(program)
        field = tuple(cell for cell in board.cells if 0 <= cell[0] <= board.delay and cell[1] >= -4)
        self.assertEqual(field, laid(program))

    def test_two_boards_of_like_circuits(self):
        """A circuit and one with a cell more, which no spark meets, never differ."""
        board = board_for(Circuit(1, (0,), (("xor", 0, 1),), (2,), (2,)))
        other = faulty(board, [("in", (10, 400))])
        told = least_line(board, other, 4)
        self.assertIs(told.__class__, Never)
        self.assertIs(is_told(board, other, 4, told), True)
        self.assertEqual(len(told.pairs), 2)


if __name__ == "__main__":
    unittest.main()
