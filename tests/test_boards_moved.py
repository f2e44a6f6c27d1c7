"""[11] to [13]: side by side, joints, moves and turns, loops."""

import itertools
import unittest

from sparkboard.cells import (
    Loop, Stand, apart, later, loop_of, moved, moved_stand, neighbours, step, together, turned, turned_stand,
)
from sparkboard.errors import BadCell, BadNumber, BadRow
from tests.asking import Asking
from tests.plain import Strange, all_small_boards, plain_distance, plain_stands, some_boards, wrong_counts
from tests.test_stands import NO_ROWS_OF_CELLS

BARE = Stand((), ())

# What [12] says of each way, written out.
TURNS = {
    0: lambda x, y: (x, y),
    1: lambda x, y: (-y, x),
    2: lambda x, y: (-x, -y),
    3: lambda x, y: (y, -x),
    4: lambda x, y: (-x, y),
    5: lambda x, y: (-y, -x),
    6: lambda x, y: (x, -y),
    7: lambda x, y: (y, x),
}
WRONG_WAYS = [None, True, False, -1, 8, 10 ** 30, 1.0, "1", (), [], Strange()]


class SideBySide(Asking):
    def test_apart(self):
        self.assertIs(apart(((0, 0),), ((2, 0),)), True)
        self.assertIs(apart(((0, 0),), ((1, 1),)), False)
        self.assertIs(apart(((0, 0),), ((0, 0),)), False)
        self.assertIs(apart((), ()), True)
        self.assertIs(apart([], [[0, 0]]), True)

    def test_apart_is_the_distance_of_all(self):
        boards = some_boards(7, 60, 3, 3)
        for (cells, _, _), (others, _, _) in zip(boards, boards[1:]):
            for dx, dy in itertools.product((0, 1, 2, 3, 4), (0, 2, 3)):
                far = [[x + dx, y + dy] for x, y in others]
                wanted = all(plain_distance(one, other) >= 2 for one in cells for other in far)
                self.assertIs(self.assert_unchanged(apart, cells, far), wanted)
                self.assertIs(apart(far, cells), wanted)

    def test_wrong_rows(self):
        for wrong in NO_ROWS_OF_CELLS:
            self.assert_error(BadRow, (wrong,), apart, wrong, None)
            self.assert_error(BadRow, (wrong,), apart, ((0, 0),), wrong)

    def test_together(self):
        one = Stand(((5, 0),), ((4, 0),))
        other = Stand(((0, 0),), ((9, 9), (1, 1)))
        told = self.assert_unchanged(together, one, other)
        self.assertEqual(told, Stand(((0, 0), (5, 0)), ((1, 1), (4, 0), (9, 9))))
        self.assertEqual(together(one, BARE), one)
        self.assertEqual(together(BARE, BARE), BARE)

    def test_a_cell_in_both(self):
        one = Stand(((5, 0),), ((4, 0),))
        for heads, tails in ((((5, 0),), ()), (((4, 0),), ()), (((1, 1),), ((5, 0),)), ((), ((4, 0),))):
            self.assert_error(BadRow, (heads,), together, one, Stand(heads, tails))

    def test_each_runs_by_itself(self):
        boards = some_boards(8, 80, 4, 4)
        for (cells, heads, tails), (others, other_heads, other_tails) in zip(boards, boards[1:]):
            far = moved(others, 5, 1)
            self.assertTrue(apart(cells, far))
            one, other = Stand(heads, tails), moved_stand(Stand(other_heads, other_tails), 5, 1)
            both = together(one, other)
            self.assertEqual(step(cells + far, both), together(step(cells, one), step(far, other)))
            self.assertEqual(later(cells + far, both, 9), together(later(cells, one, 9), later(far, other, 9)))

    def assert_joint(self, second, moments):
        """Fact F at the cells c and d, and whether what it asks for is so."""
        c, d, steps = (0, 0), (1, 0), 16
        first = tuple((x, 0) for x in range(-5, 1))
        lit = tuple((moment, (-5, 0)) for moment in moments)
        one = plain_stands(first, (), (), steps, lit)
        at_c = [moment for moment in range(steps + 1) if c in one[moment][0]]
        lit_second = tuple((moment + 1, d) for moment in at_c)
        other = plain_stands(second, (), (), steps, lit_second)
        around = {d} | set(neighbours(d))
        if [moment for moment in range(steps + 1) if d in other[moment][0]] != [at + 1 for at in at_c if at < steps]:
            return False
        if any(around & set(other[at][0]) or d in other[at][1] for at in at_c):
            return False
        for moment in range(steps + 1):
            both = together(later(first, BARE, moment, lit), later(second, BARE, moment, lit_second))
            self.assertEqual(later(first + second, BARE, moment, lit), both)
        return True

    def test_a_joint(self):
        wire = tuple((x, 0) for x in range(1, 8))
        for moments in ((), (0,), (0, 4), (1, 4, 8), (2, 9)):
            self.assertTrue(self.assert_joint(wire, moments))
        held = 0
        for cells, _, _ in some_boards(11, 60, 4, 4):
            second = wire[:4] + tuple((x + 5, y - 2) for x, y in cells)
            for moments in ((0,), (0, 6), (1, 4, 8)):
                held += self.assert_joint(second, moments)
        self.assertGreater(held, 60)


class Moves(Asking):
    def test_moved(self):
        self.assertEqual(moved([[3, 4], [0, 9]], -1, 10), ((-1, 19), (2, 14)))
        self.assertEqual(moved((), 5, 5), ())
        cells = [[2, 2], [1, 5]]
        told = self.assert_unchanged(moved, cells, 0, 0)
        self.assertEqual(told, ((1, 5), (2, 2)))
        self.assertTrue(all(cell.__class__ is tuple for cell in told))

    def test_turned(self):
        cells = ((0, 0), (1, 2), (-3, 4), (5, -7))
        for way, turn in TURNS.items():
            wanted = tuple(sorted(turn(x, y) for x, y in cells))
            self.assertEqual(self.assert_unchanged(turned, [list(cell) for cell in cells], way), wanted)
            self.assertEqual(turned((), way), ())

    def test_stands(self):
        stand = Stand(((0, 0), (1, 2)), ((-3, 4),))
        self.assertEqual(moved_stand(stand, 2, -1), Stand(((2, -1), (3, 1)), ((-1, 3),)))
        for way, turn in TURNS.items():
            wanted = Stand([turn(0, 0), turn(1, 2)], [turn(-3, 4)])
            self.assertEqual(self.assert_unchanged(turned_stand, stand, way), wanted)

    def test_errors(self):
        for wrong in NO_ROWS_OF_CELLS:
            self.assert_error(BadRow, (wrong,), moved, wrong, 1, 1)
            self.assert_error(BadRow, (wrong,), turned, wrong, 1)
            self.assert_error(BadRow, (wrong,), turned, wrong, 9)
        for way in WRONG_WAYS:
            self.assert_error(BadNumber, ("way", way), turned, ((0, 0),), way)
            self.assert_error(BadNumber, ("way", way), turned, (), way)
            self.assert_error(BadNumber, ("way", way), turned_stand, BARE, way)

    def test_steps_of_moved_and_turned(self):
        for cells, heads, tails in some_boards(9, 60):
            stand = Stand(heads, tails)
            behind = step(cells, stand)
            for dx, dy in ((0, 0), (-7, 3), (10 ** 6, -10 ** 6)):
                self.assertEqual(step(moved(cells, dx, dy), moved_stand(stand, dx, dy)), moved_stand(behind, dx, dy))
            for way in TURNS:
                self.assertEqual(step(turned(cells, way), turned_stand(stand, way)), turned_stand(behind, way))


RING = ((0, 1), (0, 2), (1, 0), (1, 3), (2, 0), (2, 3), (3, 1), (3, 2))


def plain_loop(cells, heads, tails, most):
    """The least first, and for it the least length, by a look at all pairs of moments."""
    stands = plain_stands(cells, heads, tails, most)
    for first in range(most + 1):
        for length in range(1, most - first + 1):
            if stands[first] == stands[first + length]:
                return first, length
    return None


class Returns(Asking):
    def assert_loop(self, cells, stand, most, wanted):
        told = self.assert_unchanged(loop_of, cells, stand, most)
        if wanted is None:
            self.assertIsNone(told)
        else:
            self.assertIs(told.__class__, Loop)
            self.assertEqual((told.first, told.length), wanted)

    def test_bare_is_bare(self):
        self.assert_loop((), BARE, 1, (0, 1))
        self.assert_loop(RING, BARE, 5, (0, 1))
        self.assert_loop(RING, BARE, 0, None)
        self.assert_loop(RING, Stand((), ((1, 0),)), 2, (1, 1))
        self.assert_loop(RING, Stand((), ((1, 0),)), 1, None)

    def test_a_spark_in_a_ring(self):
        spark = Stand(((1, 0),), ((0, 1),))
        self.assert_loop([list(cell) for cell in RING], spark, 8, (0, 8))
        self.assert_loop(RING, spark, 7, None)
        tail = tuple((-x, 2 + x) for x in range(1, 6))
        self.assert_loop(RING, Stand(((1, 0),), ()), 30, plain_loop(RING, ((1, 0),), (), 30))
        self.assert_loop(RING + tail, spark, 30, plain_loop(RING + tail, ((1, 0),), ((0, 1),), 30))

    def test_at_most_as_many_as_stands(self):
        for cells, heads, tails in all_small_boards(((0, 0), (0, 1), (1, 0), (2, 1))):
            most = 3 ** len(cells)
            wanted = plain_loop(cells, heads, tails, most)
            self.assertIsNotNone(wanted)
            self.assert_loop(cells, Stand(heads, tails), most, wanted)

    def test_each_limit(self):
        for cells, heads, tails in some_boards(10, 40, 4, 4):
            for most in (0, 1, 2, 5, 12):
                self.assert_loop(cells, Stand(heads, tails), most, plain_loop(cells, heads, tails, most))

    def test_errors(self):
        far = Stand(((0, 0), (9, 9)), ((0, 1),))
        for wrong in NO_ROWS_OF_CELLS:
            self.assert_error(BadRow, (wrong,), loop_of, wrong, far, -1)
        for most in wrong_counts() + [4]:
            self.assert_error(BadCell, ((0, 0),), loop_of, RING, far, most)
        for most in wrong_counts():
            self.assert_error(BadNumber, ("most", most), loop_of, RING, BARE, most)


if __name__ == "__main__":
    unittest.main()
