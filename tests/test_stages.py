"""[25], [26]: tiles in stages, what they do to bits, stages put together."""

import itertools
import random

from sparkboard.errors import BadNumber, BadRow, BadTile
from sparkboard.programs import are_stages, beside, borders, held, moved_down, passed, sources
from tests.asking import Asking
from tests.plain import Strange, all_bits, only_tuples, strange_values
from tests.plain_tiles import (
    KINDS, all_stages, plain_behind, plain_borders, plain_rows_of, plain_sources, random_stages, wrong_stages,
)

WRONG_STAGES = wrong_stages(strange_values())


def wrong_bits(many):
    """Values that are no row of so many bits."""
    return strange_values() + [
        (0,) * (many + 1), [0] * (many - 1), (0,) * (many - 1) + (2,), (0,) * (many - 1) + (True,), [False] + [0] * (many - 1),
        (0,) * (many - 1) + (-1,), "0" * many, (0,) * (many - 1) + (None,), 0, ((0,) * many,), {0: 1}, [1.0] + [0] * (many - 1),
    ]


class Stages(Asking):
    def test_right_ones(self):
        for stages in (
            (), ((),), ((), (), ()), ((("wire", 0),),), ((("wire", 3),),), ((("up", 1),),), ((("up", 3),),),
            ((("down", 2),),), ((("copy", 0), ("or", 2)),), ((("up", 1), ("wire", 2), ("wire", 3)), (("but", 1),)),
            ((("xor", 0), ("up", 3)),), ((("wire", 0), ("up", 2), ("wire", 3)),),
        ):
            self.assertIs(are_stages(4, stages), True, stages)

    def test_all_small_stages(self):
        """Each tuple of tiles is a stage exactly if it is one of those that a plain count tells."""
        for rows in (1, 2, 3):
            right = set(all_stages(rows))
            tiles = [(kind, row) for kind in KINDS for row in range(-1, rows + 1)]
            for many in range(3):
                for stage in itertools.product(tiles, repeat=many):
                    self.assertIs(are_stages(rows, (stage,)), stage in right, stage)

    def test_many_random_ones(self):
        chance = random.Random(1)
        for _ in range(100):
            rows = chance.randrange(1, 12)
            stages = random_stages(chance, rows, chance.randrange(6))
            self.assertIs(are_stages(rows, stages), True)
            top = max((max(plain_rows_of(tile)) for stage in stages for tile in stage), default=-1)
            self.assertIs(are_stages(rows + 3, stages), True)
            self.assertIs(are_stages(top + 1, stages), True)
            if top > 0:
                self.assertIs(are_stages(top, stages), False)

    def test_wrong_ones(self):
        for stages, _, _ in WRONG_STAGES:
            self.assertIs(are_stages(4, stages), False)

    def test_which_tile_is_wrong(self):
        for stages, stage, tile in WRONG_STAGES:
            for call in (passed, borders, sources):
                self.assert_error(BadTile, (stage, tile), call, 4, stages, (0, 0, 0, 0) if call != sources else 0)

    def test_tiles_go_ahead_of_bits_and_rows(self):
        for stages, stage, tile in WRONG_STAGES[::7]:
            for call in (passed, borders, sources):
                for other in (None, Strange(), (0,), -1, "0"):
                    self.assert_error(BadTile, (stage, tile), call, 4, stages, other)

    def test_wrong_bits(self):
        for bits in wrong_bits(4):
            for stages in ((), ((("wire", 0),),)):
                self.assert_error(BadRow, (bits,), passed, 4, stages, bits)
                self.assert_error(BadRow, (bits,), borders, 4, stages, bits)


class Passing(Asking):
    def test_each_kind(self):
        for stage, bits, wanted in (
            ((("wire", 1),), (1, 1, 1), (0, 1, 0)), ((("wire", 1),), (1, 0, 1), (0, 0, 0)),
            ((("up", 1),), (0, 1, 1), (1, 0, 0)), ((("up", 1),), (1, 0, 1), (0, 0, 0)),
            ((("down", 1),), (1, 1, 0), (0, 0, 1)), ((("down", 1),), (1, 0, 1), (0, 0, 0)),
            ((("copy", 1),), (0, 1, 0), (0, 1, 1)), ((("copy", 1),), (1, 0, 1), (0, 0, 0)),
            ((("or", 1),), (1, 0, 0), (0, 0, 0)), ((("or", 1),), (1, 1, 0), (0, 1, 0)), ((("or", 1),), (0, 0, 1), (0, 1, 0)),
            ((("or", 1),), (0, 1, 1), (0, 1, 0)), ((("xor", 1),), (0, 1, 1), (0, 0, 0)), ((("xor", 1),), (0, 0, 1), (0, 1, 0)),
            ((("xor", 1),), (0, 1, 0), (0, 1, 0)), ((("but", 1),), (0, 1, 0), (0, 1, 0)), ((("but", 1),), (0, 0, 1), (0, 0, 0)),
            ((("but", 1),), (1, 1, 1), (0, 0, 0)), ((), (1, 1, 1), (0, 0, 0)),
        ):
            self.assertEqual(passed(3, (stage,), bits), wanted)
            self.assertEqual(borders(3, (stage,), bits), (bits, wanted))

    def test_all_stages_of_four_rows(self):
        for stage in all_stages(4):
            for bits in all_bits(4):
                self.assertEqual(passed(4, (stage,), bits), plain_behind(stage, bits))

    def test_no_stages(self):
        for bits in all_bits(3):
            self.assertEqual(passed(3, (), bits), bits)
            self.assertEqual(borders(3, (), bits), (bits,))
        self.assertEqual(passed(3, (), [1, 0, 1]), (1, 0, 1))

    def test_lists_too(self):
        stages = ((("up", 1), ("copy", 2)), (("wire", 0), ("xor", 1)))
        self.assertEqual(self.assert_unchanged(passed, 4, stages, [0, 1, 1, 0]), (1, 1, 0, 0))
        told = self.assert_unchanged(borders, 4, stages, [0, 1, 1, 0])
        self.assertEqual(told, ((0, 1, 1, 0), (1, 0, 1, 1), (1, 1, 0, 0)))
        self.assertTrue(only_tuples(told))
        self.assertTrue(only_tuples(passed(4, stages, [0, 1, 1, 0])))

    def test_random_stages(self):
        """Fact A, and each border."""
        chance = random.Random(2)
        for _ in range(300):
            rows = chance.randrange(1, 9)
            one = random_stages(chance, rows, chance.randrange(5))
            two = random_stages(chance, rows, chance.randrange(5))
            bits = tuple(chance.randrange(2) for _ in range(rows))
            told = borders(rows, one + two, bits)
            self.assertEqual(told, plain_borders(one + two, bits))
            self.assertEqual(passed(rows, one + two, bits), told[-1])
            self.assertEqual(passed(rows, one + two, bits), passed(rows, two, passed(rows, one, bits)))


class Sources(Asking):
    def test_each_kind(self):
        for stage, row, wanted in (
            ((("wire", 1),), 1, (1,)), ((("wire", 1),), 0, ()), ((("up", 1),), 0, (1,)), ((("up", 1),), 1, ()),
            ((("down", 1),), 2, (1,)), ((("down", 1),), 1, ()), ((("copy", 1),), 1, (1,)), ((("copy", 1),), 2, (1,)),
            ((("or", 1),), 1, (1, 2)), ((("or", 1),), 2, ()), ((("xor", 1),), 1, (1, 2)), ((("but", 1),), 1, (1, 2)),
            ((("but", 1),), 2, ()), ((), 1, ()),
        ):
            told = sources(3, (stage,), row)
            self.assertEqual(told, wanted)
            self.assertTrue(only_tuples(told))

    def test_no_stages(self):
        self.assertEqual([sources(3, (), row) for row in range(3)], [(0,), (1,), (2,)])

    def test_no_rows(self):
        for row in strange_values() + [-1, 3, 10 ** 30, True, False, 1.0, "1", (1,), [0], None]:
            for stages in ((), ((("wire", 1),),)):
                self.assert_error(BadNumber, ("row", row), sources, 3, stages, row)

    def test_what_cancels_out_counts(self):
        """Tiles lead there, though the bit is always 0."""
        stages = ((("copy", 0),), (("xor", 0),))
        self.assertEqual(sources(2, stages, 0), (0,))
        self.assertEqual([passed(2, stages, bits)[0] for bits in all_bits(2)], [0, 0, 0, 0])
        stages = ((("wire", 0), ("copy", 1)), (("wire", 0), ("xor", 1)), (("or", 0),))
        self.assertEqual(sources(3, stages, 0), (0, 1))

    def test_random_stages(self):
        """Fact B."""
        chance = random.Random(3)
        for _ in range(150):
            rows = chance.randrange(1, 7)
            stages = random_stages(chance, rows, chance.randrange(6), 0.1)
            for row in range(rows):
                told = sources(rows, stages, row)
                self.assertEqual(told, plain_sources(stages, row))
                seen = {}
                for bits in all_bits(rows):
                    seen.setdefault(tuple(bits[one] for one in told), set()).add(passed(rows, stages, bits)[row])
                self.assertTrue(all(len(bits) == 1 for bits in seen.values()))


class Together(Asking):
    def test_moved_down(self):
        stages = ((("up", 2), ("wire", 3)), (), (("copy", 1),))
        self.assertEqual(moved_down(stages, 3), ((("up", 5), ("wire", 6)), (), (("copy", 4),)))
        self.assertEqual(moved_down(stages, -1), ((("up", 1), ("wire", 2)), (), (("copy", 0),)))
        self.assertEqual(moved_down(stages, 0), stages)
        self.assertEqual(moved_down((), 5), ())
        self.assertEqual(moved_down(moved_down(stages, 7), -7), stages)
        self.assertTrue(only_tuples(moved_down(stages, 2)))

    def test_what_is_moved_down_does_the_same(self):
        chance = random.Random(4)
        for _ in range(50):
            stages = random_stages(chance, 4, 3)
            bits = tuple(chance.randrange(2) for _ in range(4))
            told = passed(7, moved_down(stages, 2), (1, 1) + bits + (1,))
            wanted = passed(4, stages, bits)
            self.assertEqual(told, (0, 0) + wanted + (0,))

    def test_beside(self):
        one = ((("wire", 2),), (("up", 1),), (("wire", 0),))
        other = ((("copy", 0), ("wire", 3)), (("wire", 2),))
        wanted = ((("copy", 0), ("wire", 2), ("wire", 3)), (("up", 1), ("wire", 2)), (("wire", 0),))
        self.assertEqual(beside(one, other), wanted)
        self.assertEqual(beside(other, one), wanted)
        self.assertEqual(beside(one, ()), one)
        self.assertEqual(beside((), one), one)
        self.assertEqual(beside((), ()), ())
        self.assertEqual(beside(((),), ((), ())), ((), ()))
        self.assertTrue(only_tuples(beside(one, other)))

    def test_ascending_by_the_least_row(self):
        """An up bears the number of its lower row."""
        self.assertEqual(beside(((("up", 3),),), ((("wire", 4),),)), ((("up", 3), ("wire", 4)),))
        self.assertEqual(beside(((("wire", 1), ("wire", 4)),), ((("up", 3),),)), ((("wire", 1), ("up", 3), ("wire", 4)),))
        self.assertEqual(beside(((("wire", 10),),), ((("but", 2),),)), ((("but", 2), ("wire", 10)),))
        self.assertEqual(beside(((("xor", 4),),), ((("up", 3), ("up", 7)),)), ((("up", 3), ("xor", 4), ("up", 7)),))

    def test_held(self):
        self.assertEqual(held((0, 2), 3), ((("wire", 0), ("wire", 2)),) * 3)
        self.assertEqual(held((5, 1, 3), 1), ((("wire", 1), ("wire", 3), ("wire", 5)),))
        self.assertEqual(held((5, 1), 0), ())
        self.assertEqual(held((), 2), ((), ()))
        self.assertEqual(held((), 0), ())
        self.assertEqual(self.assert_unchanged(held, [10, 9], 2), ((("wire", 9), ("wire", 10)),) * 2)
        self.assertTrue(only_tuples(held([1, 0], 2)))

    def test_what_is_held_keeps_its_bits(self):
        for bits in all_bits(4):
            self.assertEqual(passed(4, held((1, 3), 5), bits), (0, bits[1], 0, bits[3]))

    def split(self, chance, rows, many):
        """Random stages of two lots, whose tiles stand at rows of a lot, or at others."""
        lot = {row for row in range(rows) if chance.random() < 0.5}
        one, other = [], []
        for stage in random_stages(chance, rows, many, 0.1):
            one.append(tuple(tile for tile in stage if set(plain_rows_of(tile)) <= lot))
            other.append(tuple(tile for tile in stage if not set(plain_rows_of(tile)) & lot))
        return lot, tuple(one), tuple(other)

    def test_fact_c(self):
        chance = random.Random(5)
        for _ in range(150):
            rows = chance.randrange(1, 8)
            lot, one, other = self.split(chance, rows, chance.randrange(4))
            both = beside(one, other)
            self.assertIs(are_stages(rows, both), True)
            for bits in all_bits(rows):
                told, first, second = passed(rows, both, bits), passed(rows, one, bits), passed(rows, other, bits)
                for row in range(rows):
                    self.assertEqual(told[row], first[row] if row in lot else second[row])
