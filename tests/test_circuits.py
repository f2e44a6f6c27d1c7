"""[14] to [17]: circuits, their plain meaning, fewer and lighter gates."""

import random
import unittest

from sparkboard.circuits import Circuit, cycle, few, lighter, needed, run, run_from, state_behind
from sparkboard.errors import BadGate, BadNumber, BadRow
from tests.asking import Asking
from tests.plain import (
    Strange, all_bits, only_tuples, plain_cycle, plain_least, plain_needed, plain_run, random_plan, rows_of_bits,
    some_plans, strange_values, wrong_counts,
)

PLAN = (2, (0, 1), (("one",), ("not", 0), ("and", 1, 5), ("or", 6, 2), ("xor", 3, 7), ("but", 8, 0)), (9, 2), (8, 0, 8))
GATES = PLAN[2]
NO_BITS = strange_values() + [(0, 2), (0, True), (False, 1), (0, 1, 1), (0,), (-1, 0), (0, 1.0), ((0, 1),), {0, 1}]


def lists(value):
    """The same with lists in the place of tuples, but for gates."""
    if isinstance(value, tuple) and not (value and isinstance(value[0], str)):
        return [lists(item) for item in value]
    return value


class Circuits(Asking):
    def test_attributes(self):
        for parts in (PLAN, lists(PLAN)):
            circuit = self.assert_unchanged(Circuit, *parts)
            told = (circuit.inputs, circuit.resets, circuit.gates, circuit.nexts, circuit.outputs)
            self.assertEqual(told, PLAN)
            self.assertTrue(only_tuples(told))
            self.assertEqual(set(vars(circuit)), {"inputs", "resets", "gates", "nexts", "outputs"})

    def test_the_least(self):
        circuit = Circuit(0, (), (), (), ())
        self.assertEqual((circuit.inputs, circuit.resets, circuit.outputs), (0, (), ()))
        self.assertEqual(Circuit(10 ** 30, (), (), (), (10 ** 30 - 1,)).inputs, 10 ** 30)
        self.assertEqual(Circuit(0, (), (("one",),), (), (0,)).gates, (("one",),))

    def test_lists_are_copied(self):
        parts = lists(PLAN)
        circuit = Circuit(*parts)
        for row in parts[1:]:
            row.clear()
        self.assertEqual(circuit, Circuit(*PLAN))

    def test_wrong_inputs(self):
        for wrong in wrong_counts():
            self.assert_error(BadNumber, ("inputs", wrong), Circuit, wrong, None, None, None, None)

    def test_wrong_resets(self):
        for wrong in strange_values() + [(0, 2), [0, True], (False,), (-1,), (0, 1.0), "01", {0: 1}, {0, 1}, b"01"]:
            self.assert_error(BadRow, (wrong,), Circuit, 1, wrong, None, None, None)

    def test_gates_that_are_no_row(self):
        for wrong in (None, 3, "one", b"one", {("one",)}, {("one",): 1}, iter(()), Strange(), True):
            self.assert_error(BadRow, (wrong,), Circuit, 1, (0,), wrong, None, None)

    def test_wrong_gates(self):
        wrongs = strange_values() + [
            ["one"], ["and", 0, 1], ("one", 0), ("not",), ("not", 0, 1), ("and", 0), ("and", 0, 1, 2), ("nand", 0, 1),
            ("AND", 0, 1), ("not", -1), ("not", 4), ("and", 0, 4), ("or", 4, 0), ("xor", True, 0), ("but", 0, False),
            ("not", 1.0), ("not", "0"), ("not", None), ("not", Strange()), (Strange(),), (Strange(), 0), (b"one",),
            (("one",),), ("and", (0, 1)), ("same", 0, 1), ("wire", 0), ("",), ("not", 10 ** 30),
        ]
        for wrong in wrongs:
            gates = (("not", 0), wrong, "also none")
            self.assert_error(BadGate, (1,), Circuit, 2, (0,), gates, None, None)
            self.assert_error(BadGate, (0,), Circuit, 1, (0, 1, 1), [wrong], None, None)

    def test_a_gate_names_signals_ahead_alone(self):
        for number in range(4):
            gates = [("one",)] * number + [("not", 2 + number)]
            self.assert_error(BadGate, (number,), Circuit, 1, (0,), gates, (0,), ())
            self.assertEqual(Circuit(1, (0,), gates[:-1] + [("not", 1 + number)], (0,), ()).nexts, (0,))
        self.assert_error(BadGate, (0,), Circuit, 0, (), (("not", 0),), (), ())

    def test_wrong_nexts_and_outputs(self):
        wrongs = strange_values() + [(0, 4), (0, -1), (0, True), (0, 1.0), "01", {0, 1}, ((0, 1),)]
        for wrong in wrongs + [(), (0,), (0, 0, 0)]:
            self.assert_error(BadRow, (wrong,), Circuit, 1, (0, 1), (("one",),), wrong, None)
        for wrong in wrongs:
            self.assert_error(BadRow, (wrong,), Circuit, 1, (0, 1), (("one",),), (3, 0), wrong)
        self.assertEqual(Circuit(1, (0, 1), (("one",),), (3, 0), (3, 3, 0)).outputs, (3, 3, 0))

    def test_equal(self):
        circuit = Circuit(*PLAN)
        self.assertTrue(circuit == circuit)
        self.assertTrue(circuit == Circuit(*lists(PLAN)))
        self.assertFalse(circuit != Circuit(*PLAN))
        others = [
            (3, (1,), GATES, (9,), (8, 0, 8)), (2, (0, 0), GATES, (9, 2), (8, 0, 8)),
            (2, (0, 1), GATES + (("one",),), (9, 2), (8, 0, 8)), (2, (0, 1), GATES, (9, 3), (8, 0, 8)),
            (2, (0, 1), GATES, (9, 2), (8, 0)),
        ]
        for parts in others:
            self.assertFalse(circuit == Circuit(*parts))
        self.assertFalse(Circuit(1, (), (), (), ()) == Circuit(2, (), (), (), ()))
        for other in (PLAN, None, Strange(), "Circuit"):
            self.assertFalse(circuit == other)


class Meaning(Asking):
    def test_each_kind(self):
        words = {"and": (0, 0, 0, 1), "or": (0, 1, 1, 1), "xor": (0, 1, 1, 0), "but": (0, 0, 1, 0)}
        for kind, word in words.items():
            circuit = Circuit(2, (), ((kind, 0, 1),), (), (2,))
            for bits, bit in zip(all_bits(2), word):
                self.assertEqual(cycle(circuit, (), bits), (bits + (bit,), ()))
        self.assertEqual(cycle(Circuit(1, (), (("one",), ("not", 0)), (), ()), (), (0,)), ((0, 1, 1), ()))
        self.assertEqual(cycle(Circuit(1, (), (("one",), ("not", 0)), (), ()), (), [1]), ((1, 1, 0), ()))

    def test_cycles_of_many_circuits(self):
        for plan in some_plans(1, 150):
            circuit = Circuit(*plan)
            for state in all_bits(len(plan[1])):
                for bits in all_bits(plan[0]):
                    told = self.assert_unchanged(cycle, circuit, list(state), list(bits))
                    self.assertEqual(told, plain_cycle(plan, state, bits))
                    self.assertTrue(only_tuples(told))
                    self.assertEqual(cycle(circuit, state, bits), told)

    def test_runs_of_many_circuits(self):
        for number, plan in enumerate(some_plans(2, 150)):
            circuit = Circuit(*plan)
            for many in (0, 1, 2, 7):
                rows = rows_of_bits(number, plan[0], many)
                for state in all_bits(len(plan[1])):
                    outputs, behind = plain_run(plan, state, rows)
                    self.assertEqual(self.assert_unchanged(run_from, circuit, list(state), lists(rows)), outputs)
                    self.assertEqual(self.assert_unchanged(state_behind, circuit, state, rows), behind)
                    self.assertEqual(state_behind(circuit, list(state), lists(rows)), behind)
                told = self.assert_unchanged(run, circuit, lists(rows))
                self.assertEqual(told, plain_run(plan, plan[1], rows)[0])
                self.assertTrue(only_tuples(told))
                self.assertEqual(run(circuit, rows), told)

    def test_one_run_behind_another(self):
        for number, plan in enumerate(some_plans(3, 100)):
            circuit = Circuit(*plan)
            one, two = rows_of_bits(number, plan[0], 3), rows_of_bits(number + 1, plan[0], 4)
            behind = state_behind(circuit, circuit.resets, one)
            self.assertEqual(run(circuit, one + two), run(circuit, one) + run_from(circuit, behind, two))

    def test_no_rows(self):
        circuit = Circuit(*PLAN)
        self.assertEqual(run(circuit, ()), ())
        self.assertEqual(run_from(circuit, (1, 1), []), ())
        self.assertEqual(state_behind(circuit, [1, 1], ()), (1, 1))
        self.assertEqual(run(Circuit(0, (), (), (), ()), ((), [])), ((), ()))

    def test_wrong_states_and_rows(self):
        circuit = Circuit(*PLAN)
        for wrong in NO_BITS:
            self.assert_error(BadRow, (wrong,), cycle, circuit, wrong, None)
            self.assert_error(BadRow, (wrong,), cycle, circuit, (0, 1), wrong)
            self.assert_error(BadRow, (wrong,), run_from, circuit, wrong, None)
            self.assert_error(BadRow, (wrong,), state_behind, circuit, wrong, None)
            for rows in (((0, 0), wrong), [wrong, (0, 0)]):
                self.assert_error(BadRow, (rows,), run, circuit, rows)
                self.assert_error(BadRow, (rows,), run_from, circuit, (0, 1), rows)
                self.assert_error(BadRow, (rows,), state_behind, circuit, (0, 1), rows)
        for rows in (None, 0, "01", {(0, 1)}, {(0, 1): 1}, iter(()), Strange(), True, (0, 1)):
            self.assert_error(BadRow, (rows,), run, circuit, rows)
            self.assert_error(BadRow, (rows,), run_from, circuit, (0, 1), rows)
            self.assert_error(BadRow, (rows,), state_behind, circuit, (0, 1), rows)


class Needed(Asking):
    def test_needed(self):
        self.assertEqual(needed(Circuit(*PLAN)), plain_needed(PLAN))
        self.assertEqual(needed(Circuit(3, (0,), (), (3,), ())), ())
        self.assertEqual(needed(Circuit(3, (0, 1), (("one",),), (1, 2), (4,))), (2, 4))
        self.assertEqual(needed(Circuit(1, (0, 1), (), (2, 1), (1,))), (1, 2))

    def test_of_many_circuits(self):
        for plan in some_plans(4, 400, gates=9):
            told = self.assert_unchanged(needed, Circuit(*plan))
            self.assertEqual(told, plain_needed(plan))
            self.assertTrue(only_tuples(told))


def plain_few(plan):
    """few, gate by gate, from the words of [16]."""
    inputs, resets, gates, nexts, outputs = plan
    ahead = inputs + len(resets)
    stands = {signal: signal for signal in range(ahead)}
    told = []
    if {"one", "not"} & {gate[0] for gate in gates}:
        told.append(("one",))
    for number, (kind, *named) in enumerate(gates):
        named = [stands[signal] for signal in named]
        if kind == "one":
            stands[ahead + number] = ahead
        else:
            if kind == "not":
                told.append(("but", ahead, named[0]))
            elif kind == "and":
                told.append(("but", *named))
                told.append(("but", named[0], ahead + len(told) - 1))
            else:
                told.append((kind, *named))
            stands[ahead + number] = ahead + len(told) - 1
    return inputs, resets, tuple(told), tuple(stands[s] for s in nexts), tuple(stands[s] for s in outputs)


def parts(circuit):
    return circuit.inputs, circuit.resets, circuit.gates, circuit.nexts, circuit.outputs


class Few(Asking):
    def test_written_out(self):
        circuit = Circuit(2, (1,), (("and", 0, 1), ("not", 3), ("one",), ("or", 4, 5), ("one",)), (6,), (3, 4, 5, 6, 7, 0))
        told = self.assert_unchanged(few, circuit)
        gates = (("one",), ("but", 0, 1), ("but", 0, 4), ("but", 3, 5), ("or", 6, 3))
        self.assertEqual(told, Circuit(2, (1,), gates, (7,), (5, 6, 3, 7, 3, 0)))

    def test_of_many_circuits(self):
        for number, plan in enumerate(some_plans(5, 300)):
            told = few(Circuit(*plan))
            self.assertIs(told.__class__, Circuit)
            self.assertEqual(parts(told), plain_few(plan))
            rows = rows_of_bits(number, plan[0], 8)
            for state in all_bits(len(plan[1])):
                self.assertEqual(plain_run(parts(told), state, rows), plain_run(plan, state, rows))


class Lighter(Asking):
    def assert_lighter(self, plan):
        told = parts(self.assert_unchanged(lighter, Circuit(*plan)))
        inputs, resets, gates, _, _ = told
        self.assertEqual(inputs, plan[0])
        self.assertTrue({gate[0] for gate in gates} <= {"one", "or", "xor", "but"})
        like = {(kind, tuple(sorted(named)) if kind in ("or", "xor") else tuple(named)) for kind, *named in gates}
        self.assertEqual(len(like), len(gates))
        signals = inputs + len(resets) + len(gates)
        self.assertEqual({s for s in plain_needed(told) if s >= inputs}, set(range(inputs, signals)))
        self.assertLessEqual(len(gates), len(plain_few(plan)[2]))
        self.assertIsNone(plain_least(plan, told))
        return told

    def test_written_out(self):
        twins = (("or", 0, 1), ("or", 1, 0), ("xor", 2, 3), ("xor", 3, 2), ("but", 0, 1), ("but", 1, 0))
        told = self.assert_lighter((2, (), twins, (), (4, 5, 6, 7)))
        self.assertLessEqual(len(told[2]), 4)
        told = self.assert_lighter((2, (0, 1, 0), (("not", 0), ("one",)), (1, 3, 5), (3,)))
        self.assertEqual(told[1], (1,))
        self.assertEqual(self.assert_lighter((3, (0,), (("one",),), (4,), ())), (3, (), (), (), ()))

    def test_of_many_circuits(self):
        for plan in some_plans(6, 250, gates=9):
            self.assert_lighter(plan)

    def test_of_larger_circuits(self):
        chance = random.Random(7)
        for _ in range(12):
            self.assert_lighter(random_plan(chance, 3, 4, 50, 4))

    def test_like_results_for_like_arguments(self):
        for plan in some_plans(8, 30):
            self.assertEqual(lighter(Circuit(*plan)), lighter(Circuit(*plan)))


if __name__ == "__main__":
    unittest.main()
