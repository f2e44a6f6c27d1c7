"""[29] to [32]: steps of slots, and programs made of circuits."""

import itertools
import random

from sparkboard.circuits import Circuit, few, run
from sparkboard.making import doubled, exchanged, is_program_of, led, made_at, program_of, with_one
from sparkboard.programs import Program, are_stages, does, played
from tests.asking import Asking
from tests.plain import Strange, all_bits, only_tuples, plain_run, random_plan, rows_of_bits, some_plans, strange_values
from tests.plain_tiles import (
    OUTS, WORDS, parts_of, plain_borders, plain_does, plain_played, plain_rows_of, plain_top, plan_of,
)


def with_wires(m, stages):
    """[29]: stages of told tiles for m slots, and the wires that they need."""
    on, part = {2 * slot for slot in range(m)}, []
    for told in stages:
        stands = {row for tile in told for row in plain_rows_of(tile)}
        wires = [("wire", row) for row in on if row % 2 == 0 and row not in stands]
        stage = sorted(list(told) + wires, key=plain_top)
        part.append(tuple(stage))
        on = {plain_top(tile) + out for tile in stage for out in OUTS[tile[0]]}
    return tuple(part)


def plain_doubled(m, p):
    later = range(p + 1, m)
    return with_wires(m, (
        [("copy", 2 * p)] + [("down", 2 * k) for k in later],
        [("down", 2 * p + 1)] + [("down", 2 * k + 1) for k in later],
    ))


def plain_exchanged(m, p):
    beside = [("wire", 2 * p), ("wire", 2 * p + 3)]
    return with_wires(m, (
        [("copy", 2 * p), ("copy", 2 * p + 2)],
        [("xor", 2 * p + 1)] + beside,
        [("copy", 2 * p + 1)] + beside,
        [("xor", 2 * p), ("xor", 2 * p + 2)],
    ))


def plain_led(m, p, q):
    part = ()
    while p != q:
        part += plain_exchanged(m, p if p < q else p - 1)
        p += 1 if p < q else -1
    return part


def plain_made_at(m, p, kind):
    return with_wires(m, (
        [("up", 2 * k) for k in range(p + 1, m)],
        [(kind, 2 * p)] + [("up", 2 * k - 1) for k in range(p + 2, m)],
    ))


class Steps(Asking):
    def behind(self, m, part, bits):
        """The bits of slots behind a part; all other rows have 0 there."""
        rows = 2 * m + 1
        self.assertIs(are_stages(rows, part), True)
        self.assertTrue(only_tuples(part))
        ahead = [0] * rows
        ahead[0:2 * m:2] = bits
        told = plain_borders(part, ahead)[-1]
        self.assertEqual(set(told[1::2]), {0})
        return told[::2]

    def test_doubled_word_by_word(self):
        self.assertEqual(doubled(1, 0), ((("copy", 0),), (("wire", 0), ("down", 1))))
        self.assertEqual(doubled(3, 1), (
            (("wire", 0), ("copy", 2), ("down", 4)), (("wire", 0), ("wire", 2), ("down", 3), ("down", 5)),
        ))
        for m in range(1, 21):
            for p in range(m):
                self.assertEqual(doubled(m, p), plain_doubled(m, p))

    def test_fact_a(self):
        for m in range(1, 6):
            for p, bits in itertools.product(range(m), all_bits(m)):
                told = self.behind(m, doubled(m, p), bits)
                self.assertEqual(told, bits[:p + 1] + bits[p:])

    def test_exchanged_word_by_word(self):
        self.assertEqual(exchanged(2, 0), (
            (("copy", 0), ("copy", 2)), (("wire", 0), ("xor", 1), ("wire", 3)), (("wire", 0), ("copy", 1), ("wire", 3)),
            (("xor", 0), ("xor", 2)),
        ))
        self.assertEqual(exchanged(4, 1)[1], (("wire", 0), ("wire", 2), ("xor", 3), ("wire", 5), ("wire", 6)))
        for m in range(2, 21):
            for p in range(m - 1):
                self.assertEqual(exchanged(m, p), plain_exchanged(m, p))

    def test_fact_b(self):
        for m in range(2, 6):
            for p, bits in itertools.product(range(m - 1), all_bits(m)):
                told = self.behind(m, exchanged(m, p), bits)
                self.assertEqual(told, bits[:p] + (bits[p + 1], bits[p]) + bits[p + 2:] + (0,))

    def test_led_word_by_word(self):
        self.assertEqual(led(3, 0, 2), exchanged(3, 0) + exchanged(3, 1))
        self.assertEqual(led(3, 2, 0), exchanged(3, 1) + exchanged(3, 0))
        for m in range(1, 9):
            for p, q in itertools.product(range(m), repeat=2):
                self.assertEqual(led(m, p, q), plain_led(m, p, q))
                self.assertEqual(len(led(m, p, q)), 4 * abs(p - q))
        self.assertEqual(led(1, 0, 0), ())
        for p, q in ((0, 19), (19, 0), (7, 13), (13, 7), (19, 19)):
            self.assertEqual(led(20, p, q), plain_led(20, p, q))

    def test_fact_c(self):
        for m in range(1, 6):
            for p, q, bits in itertools.product(range(m), range(m), all_bits(m)):
                left = list(bits)
                left.insert(q, left.pop(p))
                self.assertEqual(self.behind(m, led(m, p, q), bits), tuple(left) + (0,))

    def test_made_at_word_by_word(self):
        self.assertEqual(made_at(2, 0, "xor"), ((("wire", 0), ("up", 2)), (("xor", 0),)))
        self.assertEqual(made_at(4, 1, "but"), (
            (("wire", 0), ("wire", 2), ("up", 4), ("up", 6)), (("wire", 0), ("but", 2), ("up", 5)),
        ))
        for m in range(2, 21):
            for p, kind in itertools.product(range(m - 1), ("or", "xor", "but")):
                self.assertEqual(made_at(m, p, kind), plain_made_at(m, p, kind))

    def test_fact_d(self):
        for m in range(2, 6):
            for p, kind, bits in itertools.product(range(m - 1), ("or", "xor", "but"), all_bits(m)):
                told = self.behind(m, made_at(m, p, kind), bits)
                self.assertEqual(told, bits[:p] + WORDS[kind](bits[p], bits[p + 1]) + bits[p + 2:] + (0, 0))


class WithOne(Asking):
    def test_no_one(self):
        for circuit in (
            Circuit(2, (0,), (("xor", 0, 1), ("and", 2, 3)), (3,), (4,)), Circuit(0, (), (), (), ()), Circuit(1, (1,), (), (0,), (1,)),
        ):
            self.assertEqual(with_one(circuit), few(circuit))

    def test_a_register_in_its_place(self):
        circuit = Circuit(1, (0,), (("not", 0), ("and", 1, 2)), (3,), (2, 3))
        self.assertEqual(few(circuit).gates[0], ("one",))
        told = with_one(circuit)
        self.assertEqual(told, Circuit(1, (0, 1), (("but", 2, 0), ("but", 1, 3), ("but", 1, 4)), (5, 2), (3, 5)))
        self.assertEqual(with_one(Circuit(0, (), (("one",),), (), (0,))), Circuit(0, (1,), (), (0,), (0,)))
        self.assertEqual(with_one(Circuit(2, (), (("one",),), (), ())), Circuit(2, (1,), (), (2,), ()))
        self.assertEqual(
            with_one(Circuit(0, (0, 1), (("xor", 0, 1), ("one",), ("one",), ("or", 2, 4)), (4, 3), (3, 5))),
            Circuit(0, (0, 1, 1), (("xor", 0, 1), ("or", 3, 2)), (2, 2, 2), (2, 4)),
        )

    def test_random_circuits(self):
        """Fact E."""
        for number, plan in enumerate(some_plans(1, 200)):
            circuit = Circuit(*plan)
            told, short = with_one(circuit), few(circuit)
            ahead = plan[0] + len(plan[1])
            if any(gate[0] in ("one", "not") for gate in plan[2]):
                wanted = Circuit(plan[0], plan[1] + (1,), short.gates[1:], short.nexts + (ahead,), short.outputs)
            else:
                wanted = short
            self.assertEqual(told, wanted)
            self.assertEqual({gate[0] for gate in told.gates} - {"or", "xor", "but"}, set())
            rows = rows_of_bits(number, plan[0], 8)
            self.assertEqual(run(told, rows), plain_run(plan, plan[1], rows)[0])


CIRCUITS = (
    Circuit(0, (), (), (), ()),
    Circuit(1, (), (), (), ()),
    Circuit(1, (), (), (), (0,)),
    Circuit(1, (), (), (), (0, 0, 0)),
    Circuit(0, (1,), (), (0,), ()),
    Circuit(0, (1,), (), (0,), (0, 0)),
    Circuit(0, (0, 1), (), (1, 0), (0, 1)),
    Circuit(0, (0, 1), (), (0, 0), ()),
    Circuit(2, (), (), (), (1, 0)),
    Circuit(2, (1,), (), (0,), (2,)),
    Circuit(3, (), (), (), (2,)),
    Circuit(0, (), (("one",),), (), ()),
    Circuit(0, (), (("one",),), (), (0,)),
    Circuit(0, (), (("one",), ("one",), ("not", 0)), (), (2, 0, 1)),
    Circuit(1, (), (("not", 0),), (), (1,)),
    Circuit(1, (0,), (("xor", 0, 1),), (2,), (2,)),
    Circuit(1, (0,), (("xor", 0, 1),), (1,), (2,)),
    Circuit(1, (), (("xor", 0, 0),), (), (1,)),
    Circuit(1, (), (("but", 0, 0),), (), (1,)),
    Circuit(1, (), (("or", 0, 0),), (), (1, 0)),
    Circuit(1, (), (("and", 0, 0),), (), (1, 0)),
    Circuit(2, (), (("but", 0, 1), ("but", 1, 0)), (), (2, 3)),
    Circuit(2, (), (("and", 0, 1), ("or", 0, 1), ("xor", 0, 1), ("but", 0, 1), ("but", 1, 0)), (), (6, 2, 3, 4, 5)),
    Circuit(2, (0, 1), (("and", 0, 2), ("and", 3, 1)), (5, 4), (5, 2)),
    Circuit(2, (0,), (("and", 0, 1), ("xor", 0, 0), ("or", 2, 4)), (5,), (1,)),
)


class Made(Asking):
    def check(self, circuit):
        """What [31] says of the program of a circuit."""
        program, told = program_of(circuit), with_one(circuit)
        self.assertIs(program.__class__, Program)
        parts, plan = parts_of(program), plan_of(circuit)
        self.assertGreaterEqual(len(program.stages), 1)
        many, regs = told.inputs, len(told.resets)
        self.assertEqual(program.inputs, tuple(2 * k for k in range(many)))
        self.assertEqual([row for row, _ in program.registers], [2 * k for k in range(many, many + regs)])
        self.assertEqual(tuple(reset for _, reset in program.registers), told.resets)
        self.assertEqual(list(program.nexts), sorted(set(program.nexts)))
        self.assertLessEqual(program.rows, 2 * (many + regs + len(told.gates) + regs + len(told.outputs) + 4))
        self.assertIs(plain_does(parts, plan_of(told)), True)
        self.assertIs(does(program, told), True)
        self.assertIs(is_program_of(circuit, program), True)
        rows = rows_of_bits(len(plan[2]), plan[0], 7)
        wanted = plain_run(plan, plan[1], rows)[0]
        self.assertEqual(plain_played(parts, rows), wanted)
        self.assertEqual(played(program, rows), wanted)
        self.assertEqual(program_of(Circuit(*plan)), program)

    def test_some_circuits(self):
        for circuit in CIRCUITS:
            self.check(circuit)

    def test_all_small_circuits(self):
        """Each circuit of two signals and one gate, with each output."""
        gates = [("one",), ("not", 0), ("not", 1)]
        gates += [(kind, i, j) for kind in ("and", "or", "xor", "but") for i in (0, 1) for j in (0, 1)]
        for gate, regs in itertools.product(gates, (0, 1, 2)):
            for output in range(3):
                nexts = ((2, 0), (1, 2))[output % 2][:regs]
                self.check(Circuit(2 - regs, (1, 0)[:regs], (gate,), nexts, (output, 2)))

    def test_random_circuits(self):
        for plan in some_plans(2, 80):
            self.check(Circuit(*plan))

    def test_what_it_is_passed_stays(self):
        circuit = Circuit(2, (0,), (("and", 0, 1), ("not", 2)), (3,), (4,))
        self.assert_unchanged(program_of, circuit)
        self.assert_unchanged(with_one, circuit)
        self.assert_unchanged(is_program_of, circuit, program_of(circuit))


class Judging(Asking):
    def changed(self, program, **parts):
        names = ("rows", "inputs", "registers", "stages", "nexts", "outs")
        return Program(*[parts.get(name, getattr(program, name)) for name in names])

    def test_any_value(self):
        for circuit in CIRCUITS[::6]:
            program = program_of(circuit)
            for value in strange_values() + [
                parts_of(program), circuit, with_one(circuit), program.stages, [program], (program,), Program, "Program", {}, 0,
            ]:
                self.assertIs(is_program_of(circuit, value), False)

    def test_other_programs_that_are_right(self):
        for circuit in CIRCUITS:
            program = program_of(circuit)
            more = self.changed(program, rows=program.rows + 9)
            self.assertIs(is_program_of(circuit, more), True)
            behind = tuple(("wire", row) for row in sorted(program.nexts + program.outs))
            self.assertIs(is_program_of(circuit, self.changed(program, stages=program.stages + (behind,))), True)
        plain = Circuit(2, (1,), (), (0,), (2,))
        wires = ((("wire", 0), ("wire", 4)),)
        self.assertIs(is_program_of(plain, Program(5, (0, 2), ((4, 1),), wires, (0,), (4,))), True)

    def test_no_stage(self):
        plain = Circuit(1, (1,), (), (0,), (1,))
        self.assertIs(is_program_of(plain, Program(3, (0,), ((2, 1),), (), (0,), (2,))), False)
        held = ((("wire", 0), ("wire", 2)),)
        self.assertIs(is_program_of(plain, Program(3, (0,), ((2, 1),), held, (0,), (2,))), True)
        nothing = Circuit(0, (), (), (), ())
        self.assertIs(is_program_of(nothing, Program(1, (), (), (), (), ())), False)
        self.assertIs(is_program_of(nothing, Program(1, (), (), ((),), (), ())), True)

    def test_rows_of_inputs_and_registers(self):
        wires = (tuple(("wire", row) for row in range(8)),)
        two = Circuit(2, (1, 1), (), (0, 1), (3,))
        self.assertIs(is_program_of(two, Program(8, (0, 2), ((4, 1), (6, 1)), wires, (0, 2), (6,))), True)
        for inputs, registers, nexts, outs in (
            ((1, 2), ((4, 1), (6, 1)), (1, 2), (6,)), ((0, 3), ((4, 1), (6, 1)), (0, 3), (6,)),
            ((2, 0), ((4, 1), (6, 1)), (2, 0), (6,)), ((0, 2), ((5, 1), (6, 1)), (0, 2), (6,)),
            ((0, 2), ((4, 1), (7, 1)), (0, 2), (7,)), ((0, 2), ((6, 1), (4, 1)), (0, 2), (4,)),
            ((4, 6), ((0, 1), (2, 1)), (4, 6), (2,)), ((0, 1), ((2, 1), (3, 1)), (0, 1), (3,)),
        ):
            program = Program(8, inputs, registers, wires, nexts, outs)
            self.assertIs(does(program, two), True)
            self.assertIs(is_program_of(two, program), False)

    def test_nexts_that_do_not_ascend(self):
        """A program that does what the circuit does, its nexts' rows being exchanged."""
        swap = Circuit(0, (0, 1), (), (1, 0), (0,))
        wires = ((("copy", 0), ("wire", 2)),)
        program = Program(3, (), ((0, 0), (2, 1)), wires, (2, 0), (1,))
        self.assertIs(does(program, swap), True)
        self.assertIs(is_program_of(swap, program), False)
        self.assertIs(is_program_of(swap, program_of(swap)), True)

    def test_what_does_another_thing(self):
        for circuit in CIRCUITS:
            program = program_of(circuit)
            for other in CIRCUITS:
                wanted = plan_of(with_one(circuit)) == plan_of(with_one(other)) or plain_does(
                    parts_of(program), plan_of(with_one(other)))
                self.assertIs(is_program_of(other, program), wanted)

    def test_other_resets(self):
        for circuit in CIRCUITS:
            program = program_of(circuit)
            for at in range(len(program.registers)):
                registers = list(program.registers)
                registers[at] = (registers[at][0], 1 - registers[at][1])
                self.assertIs(is_program_of(circuit, self.changed(program, registers=tuple(registers))), False)

    def test_the_circuit_without_one_is_another_one(self):
        """With a one, the register more is asked for."""
        circuit = Circuit(1, (), (("one",),), (), (0,))
        held = ((("wire", 0),),)
        self.assertIs(is_program_of(circuit, Program(1, (0,), (), held, (), (0,))), False)
        held = ((("wire", 0), ("wire", 2)),)
        self.assertIs(is_program_of(circuit, Program(3, (0,), ((2, 1),), held, (2,), (0,))), True)
        self.assertIs(is_program_of(circuit, Program(3, (0,), ((2, 0),), held, (2,), (0,))), False)

    def test_random_changes(self):
        chance = random.Random(6)
        found = {True: 0, False: 0}
        for plan in some_plans(7, 100, 2, 2, 4, 2):
            circuit = Circuit(*plan)
            program = program_of(circuit)
            at = chance.randrange(len(program.stages))
            stage = list(program.stages[at])
            if stage:
                spot = chance.randrange(len(stage))
                kind, row = stage[spot]
                others = {"wire": ["wire"], "up": ["up"]}.get(kind, ["or", "xor", "but", "copy", "down"])
                stage[spot:spot + 1] = [(chance.choice(others), row)] if chance.random() < 0.6 else []
            stages = program.stages[:at] + (tuple(stage),) + program.stages[at + 1:]
            other = self.changed(program, stages=stages)
            wanted = plain_does(parts_of(other), plan_of(with_one(circuit)))
            self.assertIs(is_program_of(circuit, other), wanted)
            found[wanted] += 1
        self.assertGreater(min(found.values()), 10)

    def test_an_object_that_is_like_a_program(self):
        program = program_of(CIRCUITS[15])

        class Like:
            rows, inputs, registers, stages, nexts, outs = parts_of(program)

        for value in (Like(), Strange()):
            self.assertIs(is_program_of(CIRCUITS[15], value), False)


class Sizes(Asking):
    def test_12_gates_and_6_signals(self):
        chance = random.Random(8)
        for number in range(60):
            regs = number % 7
            plan = random_plan(chance, 6 - regs, regs, 12, 4)
            circuit = Circuit(*plan)
            program = program_of(circuit)
            rows = rows_of_bits(number, plan[0], 20)
            self.assertEqual(played(program, rows), plain_run(plan, plan[1], rows)[0])
            self.assertIs(is_program_of(circuit, program), True)

    def test_the_kinds_that_need_most(self):
        for kind in ("and", "or", "xor", "but"):
            gates = [(kind, 6 + k - 1 if k else 0, k % 6) for k in range(12)]
            circuit = Circuit(3, (0, 1, 1), gates, (17, 0, 12), (17, 16, 15, 14))
            self.assertIs(is_program_of(circuit, program_of(circuit)), True)
        gates = [("not", k) for k in range(12)]
        circuit = Circuit(5, (0,), gates, (17,), (17, 5, 6, 7))
        self.assertIs(is_program_of(circuit, program_of(circuit)), True)
