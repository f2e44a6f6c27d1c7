"""[7], [13], [19], [28] and [32]: the sizes, at their limits."""

import random
import unittest

from sparkboard.cells import (
    Loop, Stand, apart, distance, later, loop_of, moved, moved_stand, neighbours, part_near, quick_step, step, stream,
    together, turned, turned_stand,
)
from sparkboard.circuits import (
    Alike, Circuit, Parting, alike, cycle, few, is_alike, lighter, needed, run, run_from, state_behind,
)
from sparkboard.errors import BadLine
from sparkboard.making import doubled, exchanged, is_program_of, led, made_at, program_of
from sparkboard.programs import (
    Program, are_stages, beside, borders, does, held, meant, moved_down, passed, played, sources,
)
from sparkboard.texts import Spoken, spoken_of, text_of
from tests.plain import plain_needed, plain_run, plain_step, random_plan, rows_of_bits
from tests.plain_tiles import plain_borders, plain_played, plain_sources, random_stages

FAR = 10 ** 9
WIRE = tuple((x, 0) for x in range(60000))
SPARKS = Stand(tuple((300 * k + 1, 0) for k in range(60)), tuple((300 * k, 0) for k in range(60)))


class Texts(unittest.TestCase):
    def test_many_lines_of_many_signs(self):
        names = [f"name{number:08d}" for number in range(1000)]
        lines = ["circuit twelve_signs"]
        while len(lines) < 75:
            some, names = names[:14], names[14:]
            lines.append(("input " + " ".join(some)).ljust(200))
            lines.append(("output " + " ".join(some)).rjust(200))
        lines.append("end".center(200))
        text = "\n".join(lines)
        told = spoken_of(text)
        self.assertEqual(told[0].circuit.inputs, 14 * (len(lines) - 2) // 2)
        again = spoken_of(text_of(told[0]))
        self.assertEqual(again[0].circuit, told[0].circuit)

    def test_a_text_of_150_lines(self):
        lines = ["circuit long", "input name00000000"]
        lines += [f"{'name%08d' % k}   =   name00000000   and   {'name%08d' % (k - 1)}".ljust(200) for k in range(1, 147)]
        lines += ["output name00000146", "end"]
        self.assertEqual(len(lines), 150)
        told = spoken_of("\n".join(lines))
        self.assertEqual(len(told[0].circuit.gates), 146)
        with self.assertRaises(BadLine) as caught:
            spoken_of("\n".join(lines[:-1] + [" " * 199 + "$"]))
        self.assertEqual((caught.exception.line, caught.exception.column), (150, 200))

    def test_a_line_of_names(self):
        spoken = Spoken("a", [f"n{k}" for k in range(60)], Circuit(60, (), (), (), tuple(range(60))))
        self.assertEqual(spoken_of(text_of(spoken))[0].names, spoken.names)


class Cells(unittest.TestCase):
    def test_step_of_400_cells(self):
        cells = tuple((x + FAR - 30, y - FAR) for x in range(20) for y in range(20))
        chance = random.Random(1)
        for _ in range(40):
            signs = [chance.choice("..HT") for _ in cells]
            heads = tuple(cell for cell, sign in zip(cells, signs) if sign == "H")
            tails = tuple(cell for cell, sign in zip(cells, signs) if sign == "T")
            lit, spent = plain_step(cells, set(heads), set(tails))
            wanted = Stand(tuple(lit), tuple(spent))
            self.assertEqual(step(cells, Stand(heads, tails)), wanted)
            self.assertEqual(quick_step(cells, Stand(heads, tails)), wanted)

    def test_long_runs(self):
        wanted = moved_stand(SPARKS, 20000, 0)
        self.assertEqual(later(WIRE, SPARKS, 20000), wanted)
        told = stream(WIRE, SPARKS, 20000, (), (18001, 0))
        self.assertEqual(told, tuple(sorted(18000 - 300 * k for k in range(60))))

    def test_400_pairs_lit(self):
        lit = tuple((50 * k, (0, 0)) for k in range(400))
        told = stream(WIRE, Stand((), ()), 20000, lit, (1000, 0))
        self.assertEqual(told, tuple(moment + 1000 for moment, _ in lit if moment <= 19000))
        self.assertEqual(later(WIRE, Stand((), ()), 0, lit), Stand(((0, 0),), ()))

    def test_large_boards(self):
        far = moved(WIRE, -FAR, FAR)
        self.assertEqual(far[0], (-FAR, FAR))
        self.assertEqual(turned(WIRE, 5)[0], (0, -59999))
        self.assertTrue(apart(WIRE, moved(WIRE, 0, 2)))
        self.assertFalse(apart(WIRE, moved(WIRE, 0, 1)))
        self.assertEqual(part_near(WIRE, (30000, 3), 10), WIRE[29990:30011])
        self.assertEqual(quick_step(WIRE, SPARKS), moved_stand(SPARKS, 1, 0))
        self.assertEqual(turned_stand(turned_stand(SPARKS, 1), 3), SPARKS)
        heads = together(SPARKS, moved_stand(SPARKS, 0, 9)).heads
        self.assertEqual(len(heads), 120)
        self.assertEqual(distance((-FAR, -FAR), (FAR, 0)), 2 * FAR)
        self.assertEqual(neighbours((FAR, FAR))[0], (FAR - 1, FAR - 1))

    def test_long_loops(self):
        wide = 990
        ring = tuple((x, y) for x in range(1, wide) for y in (0, 10))
        ring += tuple((x, y) for x in (0, wide) for y in range(1, 10))
        spark = Stand(((6, 0),), ((5, 0),))
        told = loop_of(ring, spark, 2000)
        self.assertIs(told.__class__, Loop)
        self.assertEqual((told.first, told.length), (0, len(ring)))
        self.assertIsNone(loop_of(ring, spark, len(ring) - 1))
        self.assertIsNone(loop_of(WIRE, SPARKS, 2000))


class Circuits(unittest.TestCase):
    def test_60_signals(self):
        chance = random.Random(2)
        for _ in range(20):
            plan = random_plan(chance, 4, 4, 52, 6)
            circuit = Circuit(*plan)
            rows = rows_of_bits(3, 4, 60)
            self.assertEqual((run(circuit, rows), state_behind(circuit, plan[1], rows)), plain_run(plan, plan[1], rows))
            self.assertEqual(run_from(circuit, plan[1], rows), run(circuit, rows))
            self.assertEqual(len(cycle(circuit, plan[1], rows[0])[0]), 60)
            self.assertEqual(needed(circuit), plain_needed(plan))
            self.assertEqual(run(few(circuit), rows), run(circuit, rows))
            self.assertEqual(run(lighter(circuit), rows), run(circuit, rows))

    def test_many_gates_in_a_row(self):
        gates = [("not", k) for k in range(59)]
        circuit = Circuit(1, (), gates, (), (59,))
        self.assertEqual(run(circuit, ((0,), (1,)) * 30), ((1,), (0,)) * 30)
        told = lighter(circuit)
        self.assertEqual(run(told, ((0,), (1,)) * 30), ((1,), (0,)) * 30)

    def counter(self, regs, last):
        """Counts up while no input is 0; its output is 1 at the greatest number, if last is 1."""
        gates = [("and", 0, 1), ("and", 2, 3), ("and", 4 + regs, 5 + regs)]
        carry = 6 + regs
        nexts = []
        for register in range(4, 4 + regs):
            gates.append(("xor", register, carry))
            nexts.append(3 + regs + len(gates))
            gates.append(("and", register, carry))
            carry = 3 + regs + len(gates)
        gates.append(("and", carry, carry) if last else ("but", carry, carry))
        gates += [("or", 0, 1)] * (60 - 4 - regs - len(gates))
        return Circuit(4, (0,) * regs, gates, nexts, (7 + 3 * regs,))

    def test_256_pairs_of_states(self):
        told = alike(self.counter(8, 0), Circuit(4, (), (("but", 0, 0),), (), (4,)))
        self.assertIs(told.__class__, Alike)
        self.assertEqual(len(told.pairs), 256)
        self.assertIs(is_alike(self.counter(8, 0), Circuit(4, (), (("but", 0, 0),), (), (4,)), told), True)

    def test_256_rows(self):
        one, other = self.counter(8, 1), Circuit(4, (), (("but", 0, 0),), (), (4,))
        told = alike(one, other)
        self.assertIs(told.__class__, Parting)
        self.assertEqual(told.rows, ((1, 1, 1, 1),) * 256)
        self.assertIs(is_alike(one, other, told), True)
        self.assertIs(is_alike(one, other, Parting(told.rows[1:])), False)
        self.assertIs(is_alike(one, other, Parting(told.rows + told.rows[:1])), False)

    def test_four_and_four_registers(self):
        one, other = self.counter(4, 1), lighter(self.counter(4, 1))
        for _ in range(5):
            told = alike(one, other)
            self.assertEqual(len(told.pairs), 16)
            self.assertIs(is_alike(one, other, told), True)


class Programs(unittest.TestCase):
    def setUp(self):
        self.stages = random_stages(random.Random(4), 100, 2000, 0.02)
        self.bits = rows_of_bits(5, 100, 1)[0]

    def test_2000_stages_of_100_rows(self):
        told = borders(100, self.stages, self.bits)
        self.assertEqual(told, plain_borders(self.stages, self.bits))
        self.assertEqual(passed(100, self.stages, self.bits), told[-1])
        self.assertIs(are_stages(100, self.stages), True)
        self.assertIs(are_stages(99, self.stages), False)
        for row in (0, 50, 99):
            self.assertEqual(sources(100, self.stages, row), plain_sources(self.stages, row))

    def test_2000_stages_put_together(self):
        further = moved_down(self.stages, 100)
        both = beside(further, self.stages)
        self.assertEqual(passed(200, both, self.bits + self.bits), 2 * passed(100, self.stages, self.bits))
        self.assertEqual(passed(100, held(tuple(range(100)), 2000), self.bits), self.bits)

    def test_60_cycles(self):
        """Stages that hold most rows and change some on their way."""
        stages = held(tuple(range(100)), 1940) + random_stages(random.Random(6), 100, 60, 0.02)
        parts = (
            100, tuple(range(0, 100, 2)), tuple((row, row % 3 % 2) for row in range(1, 100, 2)), stages,
            tuple(range(50)), tuple(range(50, 100)),
        )
        program = Program(*parts)
        lines = rows_of_bits(7, 50, 60)
        told = played(program, lines)
        self.assertEqual(told[:3], plain_played(parts, lines[:3]))
        state, shown = [reset for _, reset in parts[2]], []
        for bits in lines[:10]:
            outs, state = meant(program, state, bits)
            shown.append(outs)
        self.assertEqual(told[:10], tuple(shown))

    def test_circuits_of_60_signals(self):
        """A chain of gates: slot 0 takes in one signal behind the other."""
        for kind in ("or", "xor", "but"):
            stages, gates = doubled(8, 0), []
            for number in range(52):
                signal = 1 + number % 7
                gates.append((kind, 7 + number if number else 0, signal))
                stages += doubled(9, 1 + signal) + led(10, 1 + signal, 1) + made_at(10, 0, kind)
            stages += held(tuple(range(0, 18, 2)), 2000 - len(stages))
            registers = ((10, 0), (12, 1), (14, 1))
            program = Program(100, (0, 2, 4, 6, 8), registers, stages, (12, 14, 16), (0,))
            self.assertEqual(len(program.stages), 2000)
            self.assertIs(does(program, Circuit(5, (0, 1, 1), gates, (5, 6, 7), (59,))), True)
            self.assertIs(does(program, Circuit(5, (0, 1, 1), gates, (5, 6, 7), (58,))), kind != "xor")
            gates[51] = ("and",) + gates[51][1:]
            self.assertIs(does(program, Circuit(5, (0, 1, 1), gates, (5, 6, 7), (59,))), False)


class Making(unittest.TestCase):
    def test_20_slots(self):
        bits = (1, 0) * 20 + (0,)
        self.assertEqual(passed(41, doubled(20, 0), bits)[-1], bits[38])
        self.assertEqual(passed(41, exchanged(20, 18), bits), bits)
        self.assertEqual(len(led(20, 0, 19)), 76)
        self.assertEqual(passed(41, made_at(20, 18, "xor"), bits)[36:], (0, 0, 0, 0, 0))

    def test_circuits_with_and_and_not(self):
        for outputs in ((17,), (17, 17, 16, 15), (0, 1, 2, 3), ()):
            gates = [("not", 0)] + [("and", 5 + k, k % 6) for k in range(1, 11)] + [("not", 16)]
            for _ in range(5):
                circuit = Circuit(3, (0, 1, 0), gates, (17, 5, 4), outputs)
                self.assertIs(is_program_of(circuit, program_of(circuit)), True)


if __name__ == "__main__":
    unittest.main()
