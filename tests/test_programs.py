"""[27]: programs, what they play, and what they do."""

import random

from sparkboard.circuits import Circuit, run
from sparkboard.errors import BadNumber, BadRow, BadTile
from sparkboard.programs import Program, does, meant, played
from tests.asking import Asking
from tests.plain import (
    Strange, all_bits, only_tuples, plain_run, random_plan, rows_of_bits, some_plans, strange_values, wrong_counts,
)
from tests.plain_tiles import parts_of, plain_does, plain_meant, plain_played, plan_of, random_parts, wrong_stages

WIRES = ((("wire", 0), ("wire", 1), ("wire", 2), ("wire", 3)),)
# A toggle: the input is row 0, the register row 2.
TOGGLE = (
    3, (0,), ((2, 0),),
    ((("wire", 0), ("up", 2)), (("xor", 0),), (("copy", 0),), (("wire", 0), ("down", 1))), (0,), (2,),
)


def no_rows(many):
    """Values that are no row of unlike numbers of so many rows."""
    return strange_values() + [
        (0, 0), [1, 0, 1], (many,), (-1,), (0, many), (True,), (False,), [0, True], (0.0,), ("0",), "0", (None,), ((0,),), 0,
        {0}, {0: 1}, range(2), (10 ** 30,), [[0]], (0, None), (0, Strange()),
    ]


class Programs(Asking):
    def test_attributes(self):
        program = Program(4, [1, 0], [[3, 1], (2, 0)], WIRES, [0, 2], [3])
        self.assertEqual(
            parts_of(program), (4, (1, 0), ((3, 1), (2, 0)), WIRES, (0, 2), (3,)),
        )
        self.assertTrue(only_tuples(parts_of(program)))
        self.assertEqual(set(vars(program)), {"rows", "inputs", "registers", "stages", "nexts", "outs"})
        program = Program(1, (), (), (), (), ())
        self.assertEqual(parts_of(program), (1, (), (), (), (), ()))
        program = Program(1, [], [], ((),), [], [])
        self.assertEqual(parts_of(program), (1, (), (), ((),), (), ()))

    def test_named_arguments(self):
        program = Program(rows=1, inputs=(0,), registers=(), stages=(), nexts=(), outs=(0,))
        self.assertEqual(program.outs, (0,))

    def test_a_row_may_be_there_ahead_and_behind(self):
        program = Program(2, (0,), ((1, 1),), (), (0,), (1,))
        self.assertEqual(played(program, ((0,), (1,), (0,))), ((1,), (0,), (1,)))

    def test_wrong_rows(self):
        for rows in wrong_counts() + [0]:
            self.assert_error(BadNumber, ("rows", rows), Program, rows, None, None, None, None, None)
            self.assert_error(BadNumber, ("rows", rows), Program, rows, (), (), (), (), ())

    def test_wrong_inputs(self):
        for inputs in no_rows(4):
            self.assert_error(BadRow, (inputs,), Program, 4, inputs, (), WIRES, (), ())
            self.assert_error(BadRow, (inputs,), Program, 4, inputs, None, None, None, None)

    def test_wrong_registers(self):
        wrong = strange_values() + [
            (0,), ((0,),), ((0, 0, 0),), ((0, 2),), ((0, -1),), ((0, True),), ((0, False),), ((0, None),), ((4, 0),), ((-1, 0),),
            ((True, 0),), ((0, 0), (0, 1)), ((0, 0), (1, 1), (0, 0)), ((1, 0), (2, 0)), [[2, 1]], ((0, 1), [2, 0]), (("0", 0),),
            ("00",), {(0, 0)}, {(0, 0): 1}, ((0, 0), None), ((0, 0), Strange()), ((0, Strange()),), ((1.0, 0),), ((0, 1.0),),
            [[0, 0], [0, 0]], (((0, 0),),), (0, 0),
        ]
        for registers in wrong:
            self.assert_error(BadRow, (registers,), Program, 4, (2,), registers, WIRES, (3,), ())
            self.assert_error(BadRow, (registers,), Program, 4, [2], registers, None, None, None)

    def test_wrong_stages(self):
        for stages, stage, tile in wrong_stages(strange_values()):
            self.assert_error(BadTile, (stage, tile), Program, 4, (0,), ((1, 0),), stages, (2,), (3,))
            self.assert_error(BadTile, (stage, tile), Program, 4, [0], [[1, 0]], stages, None, None)

    def test_wrong_nexts(self):
        for nexts in no_rows(4) + [(), (0,), (0, 1, 2), [3], []]:
            self.assert_error(BadRow, (nexts,), Program, 4, (0,), ((1, 0), (2, 0)), WIRES, nexts, (3,))
            self.assert_error(BadRow, (nexts,), Program, 4, (0,), ((1, 0), (2, 0)), WIRES, nexts, None)
        for nexts in ((0,), [1], (0, 1)):
            self.assert_error(BadRow, (nexts,), Program, 4, (0,), (), WIRES, nexts, ())

    def test_wrong_outs(self):
        for outs in no_rows(4) + [(1,), [0, 1], (1, 2), (2, 1)]:
            self.assert_error(BadRow, (outs,), Program, 4, (0,), ((3, 0),), WIRES, (1,), outs)

    def test_rows_beyond_the_last_one(self):
        self.assertEqual(Program(4, (3,), ((2, 0),), WIRES, (3,), (2,)).inputs, (3,))
        for at, wrong in ((1, (4,)), (2, ((4, 0),)), (4, (4,)), (5, (4,))):
            parts = [4, (3,), ((2, 0),), WIRES, (3,), (2,)]
            parts[at] = wrong
            self.assert_error(BadRow, (wrong,), Program, *parts)

    def test_lists_are_copied(self):
        inputs, registers, nexts, outs = [0], [[1, 0]], [2], [3]
        program = self.assert_unchanged(Program, 4, inputs, registers, WIRES, nexts, outs)
        registers[0][1] = 1
        for given in (inputs, registers, nexts, outs):
            given.append(9)
        self.assertEqual(parts_of(program), (4, (0,), ((1, 0),), WIRES, (2,), (3,)))

    def test_equal(self):
        parts = (4, (0, 1), ((2, 0),), WIRES, (2,), (0, 3))
        one = Program(*parts)
        self.assertTrue(one == one)
        self.assertTrue(one == Program(4, [0, 1], [[2, 0]], WIRES, [2], [0, 3]))
        self.assertFalse(one != Program(4, [0, 1], [[2, 0]], WIRES, [2], [0, 3]))
        for at, other in (
            (0, 5), (1, (1, 0)), (1, (0,)), (2, ((2, 1),)), (2, ((3, 0),)), (3, ()), (3, WIRES + WIRES), (4, (1,)),
            (5, (3, 0)), (5, (0,)), (5, ()),
        ):
            changed = list(parts)
            changed[at] = other
            self.assertFalse(one == Program(*changed))
            self.assertTrue(one != Program(*changed))

    def test_equal_to_no_other_kind(self):
        class Like:
            rows, inputs, registers, stages, nexts, outs = 1, (), (), (), (), ()

        one = Program(1, (), (), (), (), ())
        for other in (Like(), parts_of(one), None, 1, "Program", Strange(), Circuit(0, (), (), (), ())):
            self.assertFalse(one == other)
            self.assertTrue(one != other)


class Playing(Asking):
    def test_a_toggle(self):
        program = Program(*TOGGLE)
        lines = ((1,), (0,), (1,), (1,), (0,))
        self.assertEqual(played(program, lines), ((1,), (1,), (0,), (1,), (1,)))
        self.assertEqual(self.assert_unchanged(played, program, [[1], (0,), [1], [1], [0]]), played(program, lines))
        self.assertTrue(only_tuples(played(program, [[1], [0]])))
        self.assertEqual(played(program, ()), ())
        self.assertEqual(played(program, []), ())

    def test_resets(self):
        parts = list(TOGGLE)
        parts[2] = ((2, 1),)
        self.assertEqual(played(Program(*parts), ((1,), (0,), (1,))), ((0,), (0,), (1,)))

    def test_no_inputs_and_no_outs(self):
        program = Program(2, (), ((0, 1), (1, 0)), (), (1, 0), ())
        self.assertEqual(played(program, ((), (), ())), ((), (), ()))
        self.assertEqual(meant(program, (1, 0), ()), ((), (0, 1)))

    def test_wrong_lines(self):
        program = Program(2, (0, 1), (), (), (), (0,))
        for lines in strange_values() + [
            ((),), ((0,),), ((0, 0, 0),), ((2, 0),), ((0, 2),), ((0, 0), (0, True)), [[0, 1], [False, 0]], ((0, 0), 0), (0, 0),
            ((0, 1), None), ("00",), {(0, 0)}, (("0", 0),), ((0, 0), Strange()), ((1.0, 1),), ((-1, 0),), ((1, 0), (1,)), 0,
        ]:
            self.assert_error(BadRow, (lines,), played, program, lines)

    def test_meant(self):
        program = Program(*TOGGLE)
        for state, bits, wanted in (((0,), (0,), 0), ((0,), (1,), 1), ((1,), (0,), 1), ((1,), (1,), 0)):
            told = self.assert_unchanged(meant, program, list(state), list(bits))
            self.assertEqual(told, ((wanted,), (wanted,)))
            self.assertEqual(meant(program, state, bits), told)
            self.assertTrue(only_tuples(told))

    def test_outs_come_first(self):
        program = Program(2, (0,), ((1, 0),), (), (1,), (0,))
        self.assertEqual(meant(program, (1,), (0,)), ((0,), (1,)))
        self.assertEqual(meant(program, (0,), (1,)), ((1,), (0,)))

    def test_wrong_states_and_bits(self):
        program = Program(*TOGGLE)
        wrong = strange_values() + [(), (0, 0), (2,), (True,), [False], 0, "0", (None,), (-1,), {0}, [1.0], [[0]]]
        for value in wrong:
            self.assert_error(BadRow, (value,), meant, program, value, (0,))
            self.assert_error(BadRow, (value,), meant, program, value, None)
            self.assert_error(BadRow, (value,), meant, program, [0], value)

    def test_random_programs(self):
        chance = random.Random(1)
        for _ in range(200):
            parts = random_parts(chance, chance.randrange(1, 7), chance.randrange(5))
            program = Program(*parts)
            lines = rows_of_bits(chance.random(), len(parts[1]), 6)
            self.assertEqual(played(program, lines), plain_played(parts, lines))
            self.assertEqual(played(program, [list(row) for row in lines]), plain_played(parts, lines))
            for state in all_bits(len(parts[2]))[:4]:
                for bits in all_bits(len(parts[1]))[:4]:
                    self.assertEqual(meant(program, state, bits), plain_meant(parts, state, bits))


def circuit_of(parts):
    """A circuit that does what a program does, gate by gate."""
    rows, inputs, registers, stages, nexts, outs = parts
    gates = []

    def gate(*made):
        gates.append(made)
        return len(inputs) + len(registers) + len(gates) - 1

    # A 0 needs a signal; without any, one but one is it.
    if inputs or registers:
        none = gate("but", 0, 0)
    else:
        one = gate("one",)
        none = gate("but", one, one)
    now = [none] * rows
    for signal, row in enumerate(tuple(inputs) + tuple(row for row, _ in registers)):
        now[row] = signal
    for stage in stages:
        behind = [none] * rows
        for kind, row in stage:
            if kind in ("or", "xor", "but"):
                behind[row] = gate(kind, now[row], now[row + 1])
            elif kind == "copy":
                behind[row] = behind[row + 1] = now[row]
            else:
                behind[{"wire": row, "up": row - 1, "down": row + 1}[kind]] = now[row]
        now = behind
    return Circuit(
        len(inputs), tuple(reset for _, reset in registers), gates, [now[row] for row in nexts], [now[row] for row in outs],
    )


class Doing(Asking):
    def check(self, parts, circuit):
        told = does(Program(*parts), circuit)
        self.assertIs(told, plain_does(parts, plan_of(circuit)))
        return told

    def test_a_toggle(self):
        toggle = Circuit(1, (0,), (("xor", 0, 1),), (2,), (2,))
        self.assertIs(self.check(TOGGLE, toggle), True)
        for other in (
            Circuit(1, (1,), (("xor", 0, 1),), (2,), (2,)), Circuit(1, (0,), (("or", 0, 1),), (2,), (2,)),
            Circuit(1, (0,), (("xor", 0, 1),), (1,), (2,)), Circuit(1, (0,), (("xor", 0, 1),), (2,), (1,)),
            Circuit(1, (0,), (("xor", 0, 1),), (2,), ()), Circuit(1, (0,), (("xor", 0, 1),), (2,), (2, 2)),
            Circuit(2, (0,), (("xor", 0, 2),), (3,), (3,)), Circuit(1, (0, 0), (("xor", 0, 1),), (3, 2), (3,)),
            Circuit(1, (), (("xor", 0, 0),), (), (1,)), Circuit(0, (0,), (), (0,), (0,)),
        ):
            self.assertIs(self.check(TOGGLE, other), False)

    def test_the_order_of_all(self):
        parts = (4, (0, 1), ((2, 0), (3, 1)), WIRES, (2, 3), (0, 1))
        self.assertIs(self.check(parts, Circuit(2, (0, 1), (), (2, 3), (0, 1))), True)
        for other in (
            Circuit(2, (1, 0), (), (2, 3), (0, 1)), Circuit(2, (0, 1), (), (3, 2), (0, 1)), Circuit(2, (0, 1), (), (2, 3), (1, 0)),
            Circuit(2, (0, 1), (), (0, 1), (2, 3)), Circuit(2, (0, 1), (), (2, 2), (0, 1)),
        ):
            self.assertIs(self.check(parts, other), False)

    def test_nothing_at_all(self):
        parts = (1, (), (), (), (), ())
        self.assertIs(self.check(parts, Circuit(0, (), (), (), ())), True)
        self.assertIs(self.check(parts, Circuit(1, (), (), (), ())), False)
        self.assertIs(self.check(parts, Circuit(0, (0,), (), (0,), ())), False)
        self.assertIs(self.check((1, (), (), (), (), (0,)), Circuit(0, (), (("one",), ("but", 0, 0)), (), (1,))), True)
        self.assertIs(self.check((1, (), (), (), (), (0,)), Circuit(0, (), (("one",),), (), (0,))), False)

    def test_states_that_no_run_comes_to_count(self):
        """The register is always 0, but meant tells for 1, too."""
        parts = (2, (), ((0, 0),), ((("copy", 0),),), (0,), (1,))
        self.assertIs(self.check(parts, Circuit(0, (0,), (), (0,), (0,))), True)
        self.assertIs(self.check(parts, Circuit(0, (0,), (("xor", 0, 0),), (0,), (1,))), False)

    def test_one_case_in_many(self):
        """A program that differs from a circuit for one row of bits alone."""
        for many in (2, 5, 8):
            gates = [("and", 0, 1)] + [("and", many + k, k + 2) for k in range(many - 2)]
            last = many + len(gates) - 1
            parts = (many, tuple(range(many)), (), ((),), (), (0,))
            all_zero = Circuit(many, (), gates + [("but", last, last)], (), (last + 1,))
            self.assertIs(self.check(parts, all_zero), True)
            self.assertIs(self.check(parts, Circuit(many, (), gates, (), (last,))), False)

    def test_all_kinds_of_gates(self):
        for kind, wanted in (("and", False), ("or", True), ("xor", False), ("but", False)):
            parts = (2, (0, 1), (), ((("or", 0),),), (), (0,))
            self.assertIs(self.check(parts, Circuit(2, (), ((kind, 0, 1),), (), (2,))), wanted)
        parts = (3, (0,), ((2, 1),), ((("down", 0), ("wire", 2)), (("wire", 1), ("copy", 2))), (2,), (1,))
        self.assertIs(self.check((3, (0,), ((1, 1),), ((("wire", 0), ("wire", 1)),), (1,), (0,)),
                                 Circuit(1, (1,), (("not", 0), ("not", 2)), (1,), (3,))), True)
        self.assertIs(self.check((3, (0,), ((1, 1),), ((("wire", 0), ("wire", 1)),), (1,), (0,)),
                                 Circuit(1, (1,), (("not", 0),), (1,), (2,))), False)
        self.assertRaises(BadTile, Program, *parts)

    def test_random_programs(self):
        chance = random.Random(2)
        for _ in range(150):
            parts = random_parts(chance, chance.randrange(1, 6), chance.randrange(6))
            circuit = circuit_of(parts)
            self.assertIs(self.check(parts, circuit), True)
            # Fact D.
            lines = rows_of_bits(chance.random(), circuit.inputs, 6)
            self.assertEqual(played(Program(*parts), lines), run(circuit, lines))
            self.assertEqual(played(Program(*parts), lines), plain_run(plan_of(circuit), circuit.resets, lines)[0])

    def test_random_changes(self):
        chance = random.Random(3)
        found = {True: 0, False: 0}
        for _ in range(200):
            parts = random_parts(chance, chance.randrange(1, 6), chance.randrange(1, 5))
            circuit = circuit_of(parts)
            stages = list(parts[3])
            at = chance.randrange(len(stages))
            if stages[at]:
                kept = list(stages[at])
                kind, row = kept.pop(chance.randrange(len(kept)))
                others = [("wire", row)] if kind == "wire" else [(other, row) for other in ("or", "xor", "but", "copy", "down")]
                if kind == "up":
                    others = [("wire", row), ("wire", row - 1)]
                kept.append(chance.choice(others))
                stages[at] = tuple(sorted(kept, key=lambda tile: tile[1] - (tile[0] == "up")))
            found[self.check(parts[:3] + (tuple(stages),) + parts[4:], circuit)] += 1
        self.assertGreater(min(found.values()), 20)

    def test_random_pairs(self):
        chance = random.Random(4)
        for plan in some_plans(5, 100, 2, 2, 3, 2):
            parts = random_parts(chance, 4, 2)
            self.check(parts, Circuit(*plan))
        for _ in range(300):
            parts = random_parts(chance, 2, 2)
            plan = random_plan(chance, len(parts[1]), len(parts[2]), 1, 0)
            signals = plan[0] + len(plan[1]) + 1
            resets = tuple(reset for _, reset in parts[2])
            outputs = tuple(chance.randrange(signals) for _ in parts[5])
            self.check(parts, Circuit(plan[0], resets, plan[2], plan[3], outputs))


class Large(Asking):
    """Circuits of up to 60 signals, of which many may be inputs."""

    def test_many_inputs_side_by_side(self):
        even, odd = tuple(range(0, 60, 2)), tuple(range(1, 60, 2))
        resets = tuple(row // 2 % 2 for row in odd)
        stages = (tuple(("copy", row) for row in even),)
        program = Program(60, even, tuple(zip(odd, resets)), stages, even, odd)
        circuit = Circuit(30, resets, (), tuple(range(30)), tuple(range(30)))
        self.assertIs(does(program, circuit), True)
        for number in (0, 17, 29):
            other = list(range(30))
            other[number] = 30 + number
            self.assertIs(does(program, Circuit(30, resets, (), tuple(range(30)), other)), False)
            self.assertIs(does(program, Circuit(30, resets, (), other, tuple(range(30)))), False)

    def test_many_gates_side_by_side(self):
        for kind in ("or", "xor", "but"):
            stages = (tuple((kind, row) for row in range(0, 40, 2)),)
            program = Program(40, tuple(range(40)), (), stages, (), tuple(range(0, 40, 2)))
            gates = [(kind, row, row + 1) for row in range(0, 40, 2)]
            self.assertIs(does(program, Circuit(40, (), gates, (), tuple(range(40, 60)))), True)
            gates[13] = ("and", 26, 27)
            self.assertIs(does(program, Circuit(40, (), gates, (), tuple(range(40, 60)))), False)

    def test_an_output_of_many_inputs(self):
        """One or of 16 rows, and all cases of 16 bits."""
        stages, rows = [], 16
        while rows > 1:
            stages.append(tuple(("or", row) for row in range(0, rows, 2)))
            for shift in range(rows // 2 - 1):
                stages.append(self.closer(rows // 2, shift))
            rows //= 2
        program = Program(16, tuple(range(16)), (), tuple(stages), (), (0,))
        gates = [("or", 0, 1)] + [("or", 16 + k, k + 2) for k in range(14)]
        self.assertIs(does(program, Circuit(16, (), gates, (), (30,))), True)
        for at in (0, 7, 14):
            for kind in ("xor", "and", "but"):
                wrong = list(gates)
                wrong[at] = (kind,) + gates[at][1:]
                self.assertIs(does(program, Circuit(16, (), wrong, (), (30,))), False)

    def closer(self, many, shift):
        """Brings bit number k, from row 2 * k on, to row k, one row a stage."""
        tiles = []
        for number in range(many):
            row = max(2 * number - shift, number)
            tiles.append(("wire", row) if row == number else ("up", row))
        return tuple(tiles)

    def only_in(self, regs, wanted):
        """A circuit with one output, 1 for these bits of inputs and registers alone."""
        many = len(wanted)
        gates = [("not", k) for k in range(many)]
        signals = [k if bit else many + k for k, bit in enumerate(wanted)]
        last = signals[0]
        for signal in signals[1:]:
            gates.append(("and", last, signal))
            last = many + len(gates) - 1
        gates.append(("but", last, last))
        return [
            Circuit(many - regs, (0,) * regs, gates, tuple(range(many - regs, many)), (output,))
            for output in (last, many + len(gates) - 1)
        ]

    def check_cases(self, many, regs, cases):
        rows = tuple(range(many))
        registers = tuple((row, 0) for row in rows[many - regs:])
        wires = (tuple(("wire", row) for row in rows),)
        program = Program(many + 1, rows[:many - regs], registers, wires, rows[many - regs:], (many,))
        for wanted in cases:
            once, never = self.only_in(regs, wanted)
            self.assertIs(does(program, never), True)
            self.assertIs(does(program, once), False)

    def test_each_case_alone(self):
        for many, regs in ((1, 0), (1, 1), (2, 1), (3, 3), (6, 2)):
            self.check_cases(many, regs, all_bits(many))

    def test_some_cases_of_many_bits_alone(self):
        chance = random.Random(5)
        for many in (8, 13, 14, 15, 16, 17):
            cases = [(0,) * many, (1,) * many]
            cases += [tuple(chance.randrange(2) for _ in range(many)) for _ in range(12)]
            self.check_cases(many, 3, cases)

    def test_one_case_of_all_bits_of_15_inputs(self):
        """What differs in the last case alone."""
        gates = [("and", 0, 1)] + [("and", 15 + k, k + 2) for k in range(13)]
        program = Program(15, tuple(range(15)), (), ((),), (), (0,))
        self.assertIs(does(program, Circuit(15, (), gates, (), (28,))), False)
        self.assertIs(does(program, Circuit(15, (), gates + [("but", 28, 28)], (), (29,))), True)
