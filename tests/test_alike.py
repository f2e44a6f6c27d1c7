"""[18]: whether two circuits are alike, and what shows it."""

import itertools
import random
import unittest

from sparkboard.circuits import Alike, Circuit, Parting, alike, few, is_alike, lighter, run
from sparkboard.errors import Unlike
from tests.asking import Asking
from tests.plain import (
    Strange, all_bits, only_tuples, plain_cycle, plain_least, plain_run, random_plan, some_plans, strange_values,
)

# Two ways to count to two: one register that turns over, and two of which just one is 1.
TURN = (1, (0,), (("xor", 0, 1),), (2,), (1,))
SHIFT = (1, (1, 0), (("but", 1, 0), ("and", 2, 0), ("or", 3, 4), ("but", 2, 0), ("and", 1, 0), ("or", 6, 7)), (5, 8), (2,))
# The output is 1 once three inputs have been 1, one cycle later.
THIRD = (1, (0, 0, 0), (("or", 0, 1), ("and", 1, 0), ("or", 5, 2), ("and", 2, 0), ("or", 7, 3)), (4, 6, 8), (3,))
NEVER = (1, (), (("but", 0, 0),), (), (1,))


def plain_closed(plan, counterplan, pairs):
    """What [18] says of the pairs of an Alike, word by word."""
    if len(set(pairs)) != len(pairs) or (tuple(plan[1]), tuple(counterplan[1])) not in pairs:
        return False
    for state, counterstate in pairs:
        for bits in all_bits(plan[0]):
            values, behind = plain_cycle(plan, state, bits)
            countervalues, counterbehind = plain_cycle(counterplan, counterstate, bits)
            if [values[s] for s in plan[4]] != [countervalues[s] for s in counterplan[4]]:
                return False
            if (behind, counterbehind) not in pairs:
                return False
    return True


def plain_parts(plan, counterplan, rows):
    """Whether the outputs differ in the last cycle, in none ahead, and with no lesser number of cycles."""
    one = plain_run(plan, plan[1], rows)[0]
    other = plain_run(counterplan, counterplan[1], rows)[0]
    return bool(rows) and one[:-1] == other[:-1] and one[-1] != other[-1] and len(rows) == plain_least(plan, counterplan)


def some_pairs(seed, many):
    """Pairs of circuits with equally many inputs and outputs, some alike, most not."""
    chance = random.Random(seed)
    for number in range(many):
        inputs, outputs = chance.randrange(3), chance.randrange(3)
        one = random_plan(chance, inputs, chance.randrange(1, 4), chance.randrange(5), outputs)
        if number % 3:
            other = random_plan(chance, inputs, chance.randrange(1, 4), chance.randrange(5), outputs)
        else:
            told = lighter(Circuit(*one))
            other = (told.inputs, told.resets, told.gates, told.nexts, told.outputs)
        yield one, other


class Told(Asking):
    def assert_told(self, plan, counterplan):
        told = self.assert_unchanged(alike, Circuit(*plan), Circuit(*counterplan))
        least = plain_least(plan, counterplan)
        if least is None:
            self.assertIs(told.__class__, Alike)
            self.assertTrue(only_tuples(told.pairs))
            self.assertTrue(plain_closed(plan, counterplan, told.pairs))
        else:
            self.assertIs(told.__class__, Parting)
            self.assertTrue(only_tuples(told.rows))
            self.assertTrue(plain_parts(plan, counterplan, told.rows))
        self.assertIs(is_alike(Circuit(*plan), Circuit(*counterplan), told), True)
        return told

    def test_alike_ones(self):
        self.assertEqual(len(self.assert_told(TURN, SHIFT).pairs), 2)
        self.assert_told(TURN, TURN)
        self.assert_told(SHIFT, TURN)

    def test_parted_ones(self):
        told = self.assert_told(THIRD, NEVER)
        self.assertEqual(told.rows[:3], ((1,), (1,), (1,)))
        self.assertEqual(len(told.rows), 4)
        self.assertEqual(len(self.assert_told((0, (0,), (), (0,), (0,)), (0, (1,), (), (0,), (0,))).rows), 1)

    def test_without_inputs_or_outputs(self):
        self.assert_told((0, (), (), (), ()), (0, (0, 1), (), (1, 0), ()))
        self.assert_told((2, (1,), (), (0,), ()), (2, (), (), (), ()))

    def test_of_many_pairs(self):
        for plan, counterplan in some_pairs(1, 300):
            self.assert_told(plan, counterplan)

    def test_a_circuit_and_its_fewer_gates(self):
        for plan in some_plans(2, 60):
            circuit = Circuit(*plan)
            self.assertIs(alike(circuit, few(circuit)).__class__, Alike)
            self.assertIs(alike(lighter(circuit), circuit).__class__, Alike)

    def test_unlike_sizes(self):
        circuit = Circuit(*TURN)
        others = [Circuit(2, (), (), (), (0,)), Circuit(0, (), (), (), ()), Circuit(1, (0,), (), (0,), (0, 0))]
        for other in others:
            for one, two in ((circuit, other), (other, circuit)):
                self.assert_error(Unlike, ("sizes",), alike, one, two)
                for told in (None, Alike(()), Parting(()), Strange()):
                    self.assert_error(Unlike, ("sizes",), is_alike, one, two, told)


class Judged(Asking):
    def judge(self, plan, counterplan, told):
        verdict = is_alike(Circuit(*plan), Circuit(*counterplan), told)
        self.assertIn(verdict, (True, False))
        self.assertIs(verdict.__class__, bool)
        return verdict

    def test_any_value(self):
        class Like:
            pairs = (((0,), (1, 0)), ((1,), (0, 1)))
            rows = ((1,),)

        for value in strange_values() + [Like(), Circuit(*TURN), Like.pairs, Like.rows, Alike, Parting]:
            self.assertFalse(self.judge(TURN, SHIFT, value))
            self.assertFalse(self.judge(THIRD, NEVER, value))
        for value in strange_values():
            for told in (Alike(value), Parting(value), Alike((value,)), Parting((value,)), Alike(((value, value),))):
                self.assertFalse(self.judge(TURN, SHIFT, told))
                self.assertFalse(self.judge(THIRD, NEVER, told))
                self.assertFalse(self.judge(TURN, NEVER, told))

    def test_all_lots_of_pairs(self):
        lot = [(one, other) for one in all_bits(1) for other in all_bits(2)]
        taken = 0
        for many in range(5):
            for pairs in itertools.permutations(lot, many):
                verdict = self.judge(TURN, SHIFT, Alike(pairs))
                self.assertEqual(verdict, plain_closed(TURN, SHIFT, pairs))
                taken += verdict
        self.assertGreater(taken, 1)

    def test_more_pairs_than_are_needed(self):
        pairs = (((0,), (0,)), ((1,), (1,)))
        still = (1, (0,), (), (1,), (0,))
        for told in ((pairs[0],), pairs, pairs[::-1]):
            self.assertTrue(self.judge(still, still, Alike(told)))
        self.assertFalse(self.judge(still, still, Alike((pairs[1],))))
        self.assertFalse(self.judge(still, still, Alike(pairs + pairs[:1])))
        self.assertFalse(self.judge(still, still, Alike(())))

    def test_kinds_within_pairs(self):
        still = (1, (0,), (), (1,), (0,))
        self.assertTrue(self.judge(still, still, Alike([((0,), (0,))])))
        wrongs = [((0,), [0]), ([0], (0,)), [(0,), (0,)], ((False,), (0,)), ((0,), (0.0,)), ((0,), (0,), (0,)), ((0,),),
                  ((0, 0), (0,)), ((), ()), ((2,), (0,)), (0, 0), ((0,), (Strange(),)), "00", Strange()]
        for wrong in wrongs:
            self.assertFalse(self.judge(still, still, Alike((wrong,))))
            self.assertFalse(self.judge(still, still, Alike((((0,), (0,)), wrong))))

    def test_all_short_rows(self):
        taken = 0
        for plan, counterplan in ((THIRD, NEVER), (TURN, SHIFT), (NEVER, TURN), (THIRD, THIRD)):
            for many in range(6):
                for rows in itertools.product(((0,), (1,)), repeat=many):
                    verdict = self.judge(plan, counterplan, Parting(rows))
                    self.assertEqual(verdict, plain_parts(plan, counterplan, rows))
                    taken += verdict
        self.assertGreater(taken, 3)

    def test_kinds_within_rows(self):
        flip = (1, (), (("not", 0),), (), (1,))
        same = (1, (), (), (), (0,))
        for rows in (((0,),), ((1,),), [(1,)]):
            self.assertTrue(self.judge(flip, same, Parting(rows)))
        wrongs = [(), ([0],), ((False,),), ((0.0,),), ((0, 0),), ((),), ((2,),), (0,), ((0,), (0,)), ((Strange(),),), "0"]
        for rows in wrongs:
            self.assertFalse(self.judge(flip, same, Parting(rows)))

    def test_a_parting_of_alike_ones(self):
        for rows in (((0,),), ((1,), (1,)), ()):
            self.assertFalse(self.judge(TURN, SHIFT, Parting(rows)))
        self.assertFalse(self.judge(THIRD, NEVER, Alike((((0, 0, 0), ()),))))

    def test_of_many_pairs(self):
        chance = random.Random(5)
        for plan, counterplan in some_pairs(3, 60):
            for many in range(1, 4):
                rows = tuple(tuple(chance.randrange(2) for _ in range(plan[0])) for _ in range(many))
                self.assertEqual(self.judge(plan, counterplan, Parting(rows)), plain_parts(plan, counterplan, rows))


class Objects(Asking):
    def test_they_keep_any_values(self):
        strange = Strange()
        self.assertIs(Alike(strange).pairs, strange)
        self.assertIs(Parting(strange).rows, strange)
        for kind, field in ((Alike, "pairs"), (Parting, "rows")):
            row = [[1, 2], (3,)]
            told = kind(row)
            self.assertEqual(set(vars(told)), {field})
            kept = getattr(told, field)
            self.assertIs(kept.__class__, tuple)
            self.assertIs(kept[0], row[0])
            row.clear()
            self.assertEqual(kept, ([1, 2], (3,)))

    def test_equal_to_themselves_alone(self):
        self.assert_only_itself_equal(lambda: Alike(()))
        self.assert_only_itself_equal(lambda: Parting(((1,),)))

    def test_rows_part_by_run(self):
        told = alike(Circuit(*THIRD), Circuit(*NEVER))
        self.assertNotEqual(run(Circuit(*THIRD), told.rows)[-1], run(Circuit(*NEVER), told.rows)[-1])


if __name__ == "__main__":
    unittest.main()
