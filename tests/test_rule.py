"""[9] and [10]: the one rule, runs, and that nothing comes from afar."""

import unittest

from sparkboard.cells import Stand, later, part_near, quick_step, step, stream
from sparkboard.errors import BadCell, BadNumber, BadRow
from tests.asking import Asking
from tests.plain import (
    all_small_boards, plain_distance, plain_stands, plain_step, some_boards, strange_values, wrong_counts,
)
from tests.test_stands import NO_ROWS_OF_CELLS

BARE = Stand((), ())
LINE = tuple((x, 0) for x in range(10))
SPOTS = ((0, 0), (0, 1), (1, 0), (1, 1), (2, 0), (3, 1))


def as_pair(stand):
    return stand.heads, stand.tails


def sorted_pair(pair):
    return tuple(sorted(pair[0])), tuple(sorted(pair[1]))


class Steps(Asking):
    def test_a_spark_runs(self):
        for one_step in (step, quick_step):
            stand = one_step(LINE, Stand(((3, 0),), ((2, 0),)))
            self.assertEqual(as_pair(stand), (((4, 0),), ((3, 0),)))
            self.assertIs(stand.__class__, Stand)

    def test_one_two_three_heads(self):
        ring = ((0, 0), (1, 0), (2, 0))
        for many in range(4):
            for one_step in (step, quick_step):
                stand = one_step(ring + ((1, 1),), Stand(ring[:many], ()))
                self.assertEqual((1, 1) in stand.heads, many in (1, 2))

    def test_nothing_outside_of_cells(self):
        for one_step in (step, quick_step):
            self.assertEqual(as_pair(one_step(((0, 0),), Stand(((0, 0),), ()))), ((), ((0, 0),)))
            self.assertEqual(as_pair(one_step((), BARE)), ((), ()))

    def test_for_all_stands_of_small_boards(self):
        for cells, heads, tails in all_small_boards(SPOTS):
            wanted = sorted_pair(plain_step(cells, set(heads), set(tails)))
            stand = Stand(heads, tails)
            self.assertEqual(as_pair(step(cells, stand)), wanted)
            self.assertEqual(as_pair(quick_step(cells, stand)), wanted)

    def test_for_many_boards(self):
        for cells, heads, tails in some_boards(1, 300, 7, 6):
            wanted = sorted_pair(plain_step(cells, set(heads), set(tails)))
            for row in (cells, tuple(reversed(cells)), [list(cell) for cell in cells]):
                for one_step in (step, quick_step):
                    told = self.assert_unchanged(one_step, row, Stand(heads, tails))
                    self.assertEqual(as_pair(told), wanted)

    def test_wrong_cells_go_ahead(self):
        for wrong in NO_ROWS_OF_CELLS:
            for one_step in (step, quick_step):
                self.assert_error(BadRow, (wrong,), one_step, wrong, BARE)
                self.assert_error(BadRow, (wrong,), one_step, wrong, Stand(((77, 7),), ()))

    def test_the_first_cell_that_is_none(self):
        for one_step in (step, quick_step):
            stand = Stand(((0, 0), (1, 5), (1, 7)), ((0, 9),))
            self.assert_error(BadCell, ((1, 5),), one_step, LINE, stand)
            self.assert_error(BadCell, ((0, 9),), one_step, LINE, Stand(((0, 0),), ((0, 9), (1, 0))))
            self.assert_error(BadCell, ((0, 0),), one_step, (), Stand(((0, 0),), ()))


class Later(Asking):
    def test_it_counts_steps(self):
        start = Stand(((0, 0),), ())
        self.assertEqual(later(LINE, start, 0), start)
        self.assertEqual(later(LINE, start, 4), Stand(((4, 0),), ((3, 0),)))
        self.assertEqual(later(LINE, start, 9), Stand(((9, 0),), ((8, 0),)))
        self.assertEqual(later(LINE, start, 10), Stand((), ((9, 0),)))
        self.assertEqual(later(LINE, start, 11), BARE)
        self.assertEqual(later(LINE, start, 10 ** 4), BARE)

    def test_lit_at_both_ends(self):
        self.assertEqual(later(LINE, BARE, 0, ((0, (5, 0)),)), Stand(((5, 0),), ()))
        self.assertEqual(later(LINE, BARE, 3, ((3, (5, 0)),)), Stand(((5, 0),), ()))
        self.assertEqual(later(LINE, BARE, 3, lit=((4, (5, 0)), (-1, (5, 0)))), BARE)
        self.assertEqual(later(LINE, BARE, 2, [[1, [0, 0]]]), Stand(((1, 0),), ((0, 0),)))

    def test_only_bare_cells_are_lit(self):
        start = Stand(((4, 0),), ((3, 0),))
        self.assertEqual(later(LINE, start, 0, ((0, (3, 0)), (0, (4, 0)))), start)
        self.assertEqual(later(LINE, start, 1, ((1, (4, 0)), (1, (5, 0)))), Stand(((5, 0),), ((4, 0),)))

    def test_lit_twice_is_lit(self):
        lit = ((1, (2, 0)), (0, (9, 0)), (1, (2, 0)), (1, (7, 0)))
        wanted = plain_stands(LINE, (), (), 3, lit)
        self.assertEqual(as_pair(later(LINE, BARE, 3, lit)), wanted[3])

    def test_runs_are_runs_of_the_plain_rule(self):
        for number, (cells, heads, tails) in enumerate(some_boards(2, 150)):
            lit = [(moment, cells[(moment * 7 + number) % len(cells)]) for moment in (-1, 0, 2, 2, 3, 6, 9) if cells]
            stands = plain_stands(cells, heads, tails, 6, lit)
            for steps in (0, 1, 2, 3, 6):
                told = self.assert_unchanged(later, list(cells), Stand(heads, tails), steps, lit)
                self.assertEqual(as_pair(told), stands[steps])
            bare = plain_stands(cells, heads, tails, 6)
            self.assertEqual(as_pair(later(cells, Stand(heads, tails), 6)), bare[6])

    def test_one_run_behind_another(self):
        for cells, heads, tails in some_boards(3, 60):
            start = Stand(heads, tails)
            for m in (0, 1, 3):
                for n in (0, 1, 4):
                    self.assertEqual(later(cells, later(cells, start, m), n), later(cells, start, m + n))

    def errors_of(self, run):
        stand = Stand(((50, 50),), ())
        for wrong in NO_ROWS_OF_CELLS:
            self.assert_error(BadRow, (wrong,), run, wrong, stand, -1, ((0, (99, 99)),))
        for steps in wrong_counts() + [3]:
            self.assert_error(BadCell, ((50, 50),), run, LINE, stand, steps, ((0, (99, 99)),))
        for steps in wrong_counts():
            self.assert_error(BadNumber, ("steps", steps), run, LINE, BARE, steps, ((0, (99, 99)),))
        for moment in (-5, 0, 1, 2, 3, 99):
            lit = ((0, (1, 0)), (moment, (0, 1)), (0, (98, 0)))
            self.assert_error(BadCell, ((0, 1),), run, LINE, BARE, 2, lit)

    def test_errors(self):
        self.errors_of(later)
        self.errors_of(lambda cells, stand, steps, lit: stream(cells, stand, steps, lit, (0, 0)))

    def test_lit_cells_of_any_kind(self):
        for wrong in strange_values() + [(True, 0), (0.0, 0), [0, 1], (0,), (0, 0, 0)]:
            lit = [(0, (0, 0)), (1, wrong)]
            self.assert_error(BadCell, (wrong,), later, LINE, BARE, 3, lit)
            self.assert_error(BadCell, (wrong,), stream, LINE, BARE, 3, lit, (0, 0))


class Streams(Asking):
    def test_moments_of_a_cell(self):
        lit = ((0, (0, 0)), (5, (0, 0)), (12, (0, 0)))
        self.assertEqual(stream(LINE, BARE, 20, lit, (7, 0)), (7, 12, 19))
        self.assertEqual(stream(LINE, BARE, 19, lit, [7, 0]), (7, 12, 19))
        self.assertEqual(stream(LINE, BARE, 18, lit, (7, 0)), (7, 12))
        self.assertEqual(stream(LINE, BARE, 12, lit, (0, 0)), (0, 5, 12))
        self.assertEqual(stream(LINE, BARE, 11, lit, (0, 0)), (0, 5))
        self.assertEqual(stream(LINE, Stand(((3, 0),), ()), 0, (), (3, 0)), (0,))

    def test_no_cell(self):
        for cell in ((0, 1), (10, 0), [5, 5]):
            self.assertEqual(stream(LINE, Stand(((3, 0),), ()), 5, (), cell), ())

    def test_against_the_plain_rule(self):
        for cells, heads, tails in some_boards(4, 80):
            lit = [(moment, cell) for moment, cell in zip((0, 3, 3, 5, 8), cells)]
            stands = plain_stands(cells, heads, tails, 8, lit)
            for cell in cells + ((-1, -1),):
                wanted = tuple(moment for moment in range(9) if cell in stands[moment][0])
                told = self.assert_unchanged(stream, cells, Stand(heads, tails), 8, lit, cell)
                self.assertEqual(told, wanted)


class Near(Asking):
    def test_part_near(self):
        for cells, _, _ in some_boards(5, 40):
            for k in (0, 1, 2, 9):
                for cell in ((0, 0), [2, 2], (-3, 5)):
                    wanted = tuple(sorted(other for other in cells if plain_distance(other, cell) <= k))
                    told = self.assert_unchanged(part_near, [list(other) for other in reversed(cells)], cell, k)
                    self.assertEqual(told, wanted)
                    self.assertTrue(all(other.__class__ is tuple for other in told))
        self.assertEqual(part_near((), (0, 0), 5), ())

    def test_wrong_cells(self):
        for wrong in NO_ROWS_OF_CELLS:
            self.assert_error(BadRow, (wrong,), part_near, wrong, (0, 0), 1)

    def test_nothing_comes_from_afar(self):
        boards = some_boards(6, 60, 9, 3)
        for (cells, heads, tails), (more, more_heads, more_tails) in zip(boards, boards[1:]):
            z = (1, 1)
            for k in range(4):
                near = part_near(cells, z, k)
                far = [cell for cell in more if plain_distance(cell, z) > k]
                both = near + tuple(far)
                lit = [c for c in heads if c in near] + [c for c in more_heads if c in far]
                spent = [c for c in tails if c in near] + [c for c in more_tails if c in far]
                one = later(cells, Stand(heads, tails), k)
                other = later(both, Stand(lit, spent), k)
                self.assertEqual(z in one.heads, z in other.heads)
                self.assertEqual(z in one.tails, z in other.tails)


if __name__ == "__main__":
    unittest.main()
