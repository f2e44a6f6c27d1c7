"""[2] and [8]: cells, stands, neighbours, distance."""

import unittest

from sparkboard.cells import Loop, Stand, distance, neighbours
from sparkboard.errors import BadRow
from tests.asking import Asking
from tests.plain import Strange, plain_distance, plain_neighbours, strange_values

NO_ROWS_OF_CELLS = strange_values() + [
    ((0, 0), (0, 0)), [(0, 0), [0, 0]], [[1, 2], (1, 2)], ((0, 0), None), ((0, 0), (1,)), ((0, 0), (1, 2, 3)),
    ((0, 0), (1, "2")), ((0, 0), (True, 2)), ((0, 0), (1.0, 2)), ((0, 0), 1), {(0, 0)}, {(0, 0): 1}, "ab", ["ab"],
    iter(((0, 0),)), ((0, 0), {1, 2}), ((0, 0), "12"), ((0, 0), range(2)),
]


class Stands(Asking):
    def test_attributes_are_ascending_tuples(self):
        stand = Stand([[3, 1], (0, 5), (0, -5)], ((2, 2), [1, 9]))
        self.assertEqual(stand.heads, ((0, -5), (0, 5), (3, 1)))
        self.assertEqual(stand.tails, ((1, 9), (2, 2)))
        for row in (stand.heads, stand.tails):
            self.assertIs(row.__class__, tuple)
            self.assertTrue(all(cell.__class__ is tuple for cell in row))
        self.assertEqual(set(vars(stand)), {"heads", "tails"})

    def test_none_at_all(self):
        for heads, tails in (((), ()), ([], []), ((), [])):
            stand = Stand(heads, tails)
            self.assertEqual((stand.heads, stand.tails), ((), ()))

    def test_far_cells(self):
        far = 10 ** 9
        stand = Stand(((far, -far), (-far, far)), ((-far, -far),))
        self.assertEqual(stand.heads, ((-far, far), (far, -far)))

    def test_wrong_heads(self):
        for wrong in NO_ROWS_OF_CELLS:
            for tails in ((), ((9, 9),), None, wrong):
                self.assert_error(BadRow, (wrong,), Stand, wrong, tails)

    def test_wrong_tails(self):
        for wrong in NO_ROWS_OF_CELLS:
            self.assert_error(BadRow, (wrong,), Stand, ((8, 8),), wrong)

    def test_a_cell_that_is_both(self):
        for tails in (((0, 0),), [[0, 0]], ((5, 5), (0, 0)), [(1, 2), (5, 5)]):
            self.assert_error(BadRow, (tails,), Stand, [(1, 2), (0, 0)], tails)

    def test_lists_are_copied(self):
        heads, tails = [[0, 0], [1, 1]], [[2, 2]]
        stand = self.assert_unchanged(Stand, heads, tails)
        heads[0][0] = 7
        heads.append([9, 9])
        tails.clear()
        self.assertEqual((stand.heads, stand.tails), (((0, 0), (1, 1)), ((2, 2),)))

    def test_equal(self):
        one = Stand(((0, 0), (1, 1)), ((2, 2),))
        self.assertTrue(one == one)
        self.assertTrue(one == Stand([[1, 1], [0, 0]], [(2, 2)]))
        self.assertFalse(one != Stand([[1, 1], [0, 0]], [(2, 2)]))
        self.assertFalse(one == Stand(((0, 0), (1, 1)), ()))
        self.assertFalse(one == Stand(((0, 0),), ((2, 2),)))
        self.assertFalse(one == Stand(((2, 2),), ((0, 0), (1, 1))))
        self.assertTrue(one != Stand((), ()))

    def test_equal_to_no_other_kind(self):
        class Like:
            heads, tails = ((0, 0),), ()

        one = Stand(((0, 0),), ())
        for other in (Like(), (((0, 0),), ()), None, 0, "Stand", Strange(), Loop(((0, 0),), ())):
            self.assertFalse(one == other)

    def test_named_arguments(self):
        self.assertEqual(Stand(heads=((0, 0),), tails=()).heads, ((0, 0),))


class Neighbours(Asking):
    def test_eight_ascending(self):
        told = ((-1, -1), (-1, 0), (-1, 1), (0, -1), (0, 1), (1, -1), (1, 0), (1, 1))
        self.assertEqual(neighbours((0, 0)), told)
        for cell in ((5, 7), (-3, 4), (10 ** 9, -10 ** 9)):
            self.assertEqual(neighbours(cell), tuple(plain_neighbours(cell)))

    def test_lists_too(self):
        told = self.assert_unchanged(neighbours, [2, 3])
        self.assertEqual(told, neighbours((2, 3)))
        self.assertTrue(all(cell.__class__ is tuple for cell in told))

    def test_they_are_the_cells_at_the_distance_1(self):
        cell = (2, -1)
        around = [(x, y) for x in range(-3, 8) for y in range(-6, 5)]
        self.assertEqual(neighbours(cell), tuple(other for other in around if plain_distance(cell, other) == 1))

    def test_distance(self):
        for x in range(-4, 5):
            for y in range(-4, 5):
                self.assertEqual(distance((1, 2), (x, y)), plain_distance((1, 2), (x, y)))
                self.assertEqual(distance([x, y], [1, 2]), plain_distance((1, 2), (x, y)))
        self.assertEqual(distance((-10 ** 9, 3), (10 ** 9, 3)), 2 * 10 ** 9)
        self.assertEqual(distance((4, 4), (4, 4)), 0)


class Loops(Asking):
    def test_it_keeps_any_values(self):
        loop = Loop(3, 4)
        self.assertEqual((loop.first, loop.length), (3, 4))
        strange = Strange()
        self.assertIs(Loop(strange, None).first, strange)
        self.assertIsNone(Loop(strange, None).length)
        row = [1, [2]]
        loop = Loop(row, [])
        self.assertIs(loop.first.__class__, tuple)
        self.assertIs(loop.first[1], row[1])
        row.append(3)
        self.assertEqual((loop.first, loop.length), ((1, [2]), ()))

    def test_equal_to_itself_alone(self):
        self.assert_only_itself_equal(lambda: Loop(0, 1))


if __name__ == "__main__":
    unittest.main()
