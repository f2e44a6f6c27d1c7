"""[38] to [42]: paths, wires of each length, ways back."""

import itertools
import random

from sparkboard.cells import Stand, later, stream
from sparkboard.errors import BadNumber, BadRow
from sparkboard.paths import Ways, are_ways, is_path, most_extra, padded, period_of, ways
from tests.asking import Asking
from tests.plain import Strange, only_tuples, strange_values, wrong_counts
from tests.plain_boards import bump, other_ways, plain_fits, plain_is_path

BARE = Stand((), ())


def all_walks(steps):
    """Each row of so many steps from (0, 0) to neighbours, whether it is a path or not."""
    for moves in itertools.product([(dx, dy) for dx in (-1, 0, 1) for dy in (-1, 0, 1)], repeat=steps):
        cells = [(0, 0)]
        for dx, dy in moves:
            cells.append((cells[-1][0] + dx, cells[-1][1] + dy))
        yield tuple(cells)


def some_paths(seed, many, most):
    """Paths that wander about."""
    chance = random.Random(seed)
    found = []
    while len(found) < many:
        cells = [(chance.randrange(-5, 5), chance.randrange(-5, 5))]
        for _ in range(chance.randrange(most)):
            x, y = cells[-1]
            more = tuple(cells) + ((x + chance.choice((-1, 0, 1)), y + chance.choice((-1, 0, 1))),)
            if plain_is_path(more):
                cells = list(more)
        found.append(tuple(cells))
    return found


class Paths(Asking):
    def test_the_words_of_the_document(self):
        self.assertIs(is_path(((0, 0), (1, 0), (1, 1))), False)
        self.assertIs(is_path(((0, 0), (1, 0), (2, 1), (2, 2))), True)
        self.assertIs(is_path(((7, -3),)), True)
        self.assertIs(is_path(()), False)

    def test_all_short_walks(self):
        found = {True: 0, False: 0}
        for steps in range(4):
            for cells in all_walks(steps):
                wanted = plain_is_path(cells)
                self.assertIs(is_path(cells), wanted)
                found[wanted] += 1
        self.assertGreater(min(found.values()), 100)

    def test_all_short_rows_of_cells(self):
        spots = [(x, y) for x in range(3) for y in range(2)]
        for many in range(5):
            for cells in itertools.product(spots, repeat=many):
                self.assertIs(is_path(cells), plain_is_path(cells))

    def test_paths_bent_at_each_place(self):
        for cells in some_paths(1, 15, 40):
            self.assertIs(is_path(cells), True)
            self.assertIs(is_path(cells[::-1]), True)
            for at in range(len(cells)):
                x, y = cells[at]
                for dx, dy in ((0, 1), (1, 0), (-1, -1), (2, 0)):
                    bent = cells[:at] + ((x + dx, y + dy),) + cells[at + 1:]
                    self.assertIs(is_path(bent), plain_is_path(bent))
                self.assertIs(is_path(cells[:at] + cells[at + 1:]), at in (0, len(cells) - 1) and len(cells) > 1)
                self.assertIs(is_path(cells[:at + 1] + cells[at:]), False)

    def test_any_value(self):
        for value in strange_values() + [
            [(0, 0), (1, 0)], ([0, 0], [1, 0]), ((0, 0), [1, 0]), ((0, 0), (1, 0), None), ((0, 0), (1, True)), ((0, 0), (1, 0.0)),
            ((0, 0), (1, 0, 0)), ((0, 0), (1,)), ((0, 0), "10"), ((False, 0), (1, 0)), ((0, 0), Strange()), (0, 0), ((0, 0), 1),
            {(0, 0): 1}, {(0, 0)}, ("a", "b"), ((0, Strange()),), (((0, 0), (1, 0)),), Stand(((0, 0),), ()),
        ]:
            self.assertIs(is_path(value), False)

    def test_a_spark_on_a_path(self):
        """Fact A of [38], alone, and with cells that are apart."""
        for number, cells in enumerate(some_paths(2, 40, 25)):
            others = tuple((x, y) for x in range(-40, 40, 7) for y in range(-40, 40, 7)
                           if all(max(abs(x - u), abs(y - v)) > 1 for u, v in cells))
            for board in (cells, cells + others):
                for moment in range(len(cells) + 3):
                    heads = cells[moment:moment + 1]
                    tails = cells[moment - 1:moment] if moment else ()
                    told = later(board, Stand(cells[:1], ()), moment)
                    self.assertEqual(told, Stand(heads, tails), (number, moment))


class Padded(Asking):
    def assert_padded(self, width, height, extra):
        cells = padded(width, height, extra)
        self.assertEqual(len(cells), width + extra + 1)
        self.assertTrue(only_tuples(cells))
        self.assertTrue(plain_is_path(cells))
        self.assertEqual((cells[:2], cells[-2:]), (((0, 0), (1, 0)), ((width - 1, 0), (width, 0))))
        self.assertTrue(all(0 <= x <= width and -height <= y <= 0 for x, y in cells))
        self.assertEqual(padded(width, height, extra), cells)

    def test_most_extra(self):
        for width, height in itertools.product(range(-3, 60), range(-2, 14)):
            wanted = 0
            if width >= 2 and height >= 3:
                wanted = (2 * height - 4) * int((width - 2) / (2 * height))
            self.assertEqual(most_extra(width, height), wanted)
        self.assertEqual(most_extra(8, 3), 2)
        self.assertEqual(most_extra(7, 3), 0)
        self.assertEqual(most_extra(2 + 16 * 5, 8), 60)

    def test_each_small_one(self):
        """Each width, height and extra that is let."""
        for width, height in itertools.product(range(2, 40), range(0, 10)):
            for extra in range(most_extra(width, height) + 1):
                self.assert_padded(width, height, extra)

    def test_large_ones(self):
        for width, height in ((200, 3), (333, 9), (500, 40), (82, 40)):
            for extra in range(0, most_extra(width, height) + 1, 3):
                self.assert_padded(width, height, extra)
            self.assert_padded(width, height, most_extra(width, height))

    def test_more_is_refused(self):
        for width, height in ((2, 0), (2, 40), (8, 3), (30, 4), (100, 2), (100, 7)):
            most = most_extra(width, height)
            for extra in wrong_counts() + [most + 1, most + 2, most + 10 ** 30]:
                self.assert_error(BadNumber, ("extra", extra), padded, width, height, extra)

    def test_a_spark_takes_so_many_moments(self):
        for width, height, extra in ((20, 4, 7), (40, 3, 12), (61, 6, 32)):
            cells = padded(width, height, extra)
            self.assertEqual(stream(cells, BARE, 300, ((5, (0, 0)),), (width, 0)), (5 + width + extra,))

    def test_bumps_of_the_tests(self):
        """The bumps with which tests make ways of their own are those of [39]."""
        for height in range(2, 8):
            for u, v in itertools.product(range(2, height + 1), repeat=2):
                cells = [(0, 0), (1, 0)] + bump(1, height, u, v)
                cells.append((cells[-1][0] + 1, 0))
                self.assertTrue(plain_is_path(tuple(cells)))
                self.assertEqual(len(cells) - 1 - cells[-1][0], (height - u) + (height - v))


def some_ys(chance, top, many, near):
    ys, y = [], top + 4 + chance.choice((0, 0, 1, 9))
    for _ in range(many):
        ys.append(y)
        y += 4 + chance.choice((0, 0, 1, 4, 12) if near else (0, 4, 50, 200))
    return tuple(ys)


NO_YS = [
    (0, 3), (0, 4, 4), (0, 4, 7), (4, 0), (-1,), (-1, 8), (0, 0), (True,), (False, 4), (0, True), (0.0,), (0, 4.0), ("0",), "0",
    (None,), ((0,),), 0, {0}, {0: 1}, range(0, 8, 4), (-10 ** 30,), [[0]], (0, None), (0, Strange()), [3, 6], [0, 4, 8, 11],
]


class Fitting(Asking):
    def assert_fit(self, width, top, starts, ends, least):
        told = self.assert_unchanged(ways, width, top, list(starts), ends, least)
        self.assertIs(told.__class__, Ways)
        self.assertGreaterEqual(told.steps, least)
        self.assertTrue(only_tuples((told.steps, told.paths)))
        self.assertTrue(plain_fits(width, top, starts, ends, told.steps, told.paths))
        self.assertIs(are_ways(width, top, starts, list(ends), least, told), True)
        again = ways(width, top, starts, ends, least)
        self.assertEqual((again.steps, again.paths), (told.steps, told.paths))
        return told

    def test_one_way(self):
        for width, top, start, end in itertools.product((2, 3, 20), (-4, 0, 10), (4, 5, 30), (4, 12)):
            told = self.assert_fit(width, top, (top + start,), (top + end,), 0)
            for least in (told.steps, told.steps + 1, told.steps + 2, told.steps + 3, told.steps + 1000):
                self.assert_fit(width, top, (top + start,), (top + end,), least)

    def test_some_ways(self):
        chance = random.Random(3)
        for _ in range(150):
            width, top = chance.choice((2, 3, 4, 5, 20, 40, 100)), chance.choice((-4, 0, 7, -30))
            many = chance.randrange(1, 6)
            starts, ends = some_ys(chance, top, many, True), some_ys(chance, top, many, chance.random() < 0.8)
            self.assert_fit(width, top, starts, ends, chance.choice((-7, 0, 10, 300, 301, 302, 303)))

    def test_each_number_of_steps_from_the_least_on(self):
        for width, ys in ((2, (0, 4)), (20, (0, 16, 32)), (41, (8,))):
            least = ways(width, -4, ys, ys, 0).steps
            for steps in range(least - 3, least + 60):
                told = self.assert_fit(width, -4, ys, ys, steps)
                if steps >= least:
                    self.assertLessEqual(told.steps - steps, 60)

    def test_no_ways(self):
        for least in (-3, 0, 24, 10 ** 6):
            told = ways(20, -4, (), [], least)
            self.assertEqual(told.paths, ())
            self.assertGreaterEqual(told.steps, least)
            self.assertIs(are_ways(20, -4, [], (), least, told), True)
            for steps, wanted in ((least, True), (least + 1, True), (least + 10 ** 30, True), (least - 1, False)):
                self.assertIs(are_ways(20, -4, (), (), least, Ways(steps, ())), wanted)
            for steps in (None, True, 1e9, "24", (), [], Strange()):
                self.assertIs(are_ways(20, -4, (), (), min(least, 0), Ways(steps, ())), False)
            self.assertIs(are_ways(20, -4, (), (), least, Ways(least, (((0, 0),),))), False)

    def test_wrong_starts_and_ends(self):
        told = ways(20, -4, (0, 8), (0, 8), 0)
        for wrong in NO_YS + strange_values():
            self.assert_error(BadRow, (wrong,), ways, 20, -4, wrong, None, 0)
            self.assert_error(BadRow, (wrong,), ways, 20, -4, (0, 8), wrong, 0)
            self.assert_error(BadRow, (wrong,), are_ways, 20, -4, wrong, None, 0, told)
            self.assert_error(BadRow, (wrong,), are_ways, 20, -4, [0, 8], wrong, 0, Strange())
        for starts, ends in (((), (0,)), ((0,), ()), ((0, 8), (0,)), ([0], [0, 8]), ((), (1,))):
            self.assert_error(BadRow, (ends,), ways, 20, -4, starts, ends, 0)
            self.assert_error(BadRow, (ends,), are_ways, 20, -4, starts, ends, 0, None)

    def test_just_at_the_top(self):
        for top in (-4, 0, 9):
            self.assert_fit(20, top, (top + 4,), (top + 4,), 0)
            for low in (top + 3, top, top - 1):
                self.assert_error(BadRow, ((low,),), ways, 20, top, (low,), (top + 4,), 0)
                self.assert_error(BadRow, ([low],), ways, 20, top, (top + 4,), [low], 0)

    def test_period(self):
        told = ways(60, -4, (0, 8), (8, 16), 100)
        self.assertEqual(period_of(60, told), 60 + told.steps)
        self.assertEqual(period_of(20, Ways(4, ())), 24)


class Objects(Asking):
    def test_ways(self):
        told = Ways(7, (((0, 0),),))
        self.assertEqual((told.steps, told.paths), (7, (((0, 0),),)))
        self.assertEqual(set(vars(told)), {"steps", "paths"})
        paths = [[(0, 0)]]
        told = Ways([1], paths)
        paths.append(1)
        self.assertEqual((told.steps, told.paths), ((1,), ([(0, 0)],)))
        for value in strange_values():
            if not isinstance(value, list):
                self.assertIs(Ways(value, value).steps, value)
                self.assertIs(Ways(value, value).paths, value)
        self.assert_only_itself_equal(lambda: Ways(0, ()))


class Judging(Asking):
    WIDTH, TOP, STARTS, ENDS = 20, -4, (0, 12, 20), (8, 12, 40)

    def judged(self, steps, paths, least=0):
        return are_ways(self.WIDTH, self.TOP, self.STARTS, self.ENDS, least, Ways(steps, paths))

    def test_any_value(self):
        told = ways(self.WIDTH, self.TOP, self.STARTS, self.ENDS, 0)
        for value in [told.paths, (told.steps, told.paths), [told], (told,)]:
            self.assertIs(are_ways(self.WIDTH, self.TOP, self.STARTS, self.ENDS, 0, value), False)
        for value in strange_values() + [Ways, "Ways", {}, 0]:
            self.assertIs(are_ways(self.WIDTH, self.TOP, self.STARTS, self.ENDS, 0, value), False)
            self.assertIs(self.judged(value, told.paths), False)
            self.assertIs(self.judged(told.steps, value), False)
            self.assertIs(self.judged(told.steps, told.paths[:2] + (value,)), False)
            self.assertIs(self.judged(told.steps, told.paths[:2] + (told.paths[2][:9] + (value,) + told.paths[2][10:],)), False)
        self.assertIs(self.judged(told.steps, told.paths), True)

    def test_an_object_that_is_like_ways(self):
        told = ways(self.WIDTH, self.TOP, self.STARTS, self.ENDS, 0)

        class Like:
            steps, paths = told.steps, told.paths

        self.assertIs(are_ways(self.WIDTH, self.TOP, self.STARTS, self.ENDS, 0, Like()), False)

    def test_lists_within(self):
        told = ways(self.WIDTH, self.TOP, self.STARTS, self.ENDS, 0)
        self.assertIs(self.judged(told.steps, list(told.paths)), True)
        self.assertIs(self.judged(told.steps, (list(told.paths[0]),) + told.paths[1:]), False)
        bent = (list(told.paths[0][0]),) + told.paths[0][1:]
        self.assertIs(self.judged(told.steps, (bent,) + told.paths[1:]), False)

    def test_least(self):
        told = ways(self.WIDTH, self.TOP, self.STARTS, self.ENDS, 0)
        self.assertIs(self.judged(told.steps, told.paths, told.steps), True)
        self.assertIs(self.judged(told.steps, told.paths, told.steps + 1), False)
        for steps in (told.steps + 1, told.steps - 1, -1, 0):
            self.assertIs(self.judged(steps, told.paths), False)

    def test_other_ways(self):
        chance = random.Random(4)
        for _ in range(60):
            width, top, many = chance.choice((2, 3, 20, 40)), chance.choice((-4, 0, 5)), chance.randrange(1, 5)
            starts, ends = some_ys(chance, top, many, True), some_ys(chance, top, many, True)
            steps, paths = other_ways(width, top, starts, ends, chance.randrange(9), chance.randrange(30))
            self.assertTrue(plain_fits(width, top, starts, ends, steps, paths))
            self.assertIs(are_ways(width, top, starts, ends, steps, Ways(steps, paths)), True)
            self.assertIs(are_ways(width, top, starts, ends, steps + 1, Ways(steps, paths)), False)
            self.assertIs(are_ways(width, top, starts, ends, 0, Ways(steps, paths[1:])), False)
            self.assertIs(are_ways(width, top, starts, ends, 0, Ways(steps, paths[:1] + paths)), False)
            self.assertIs(are_ways(width, top, starts, ends, 0, Ways(steps, paths[::-1])), many == 1)

    def test_unlike_numbers_of_steps(self):
        first = other_ways(20, -4, (0,), (0,), 0, 0)
        both = other_ways(20, -4, (0, 16), (0, 16), 0, 0)
        longer = other_ways(20, -4, (0, 16), (0, 16), 0, 7)
        self.assertIs(are_ways(20, -4, (0, 16), (0, 16), 0, Ways(*both)), True)
        self.assertIs(are_ways(20, -4, (0, 16), (0, 16), 0, Ways(*longer)), True)
        for steps in (first[0], both[0], longer[0]):
            for paths in ((first[1][0], both[1][1]), (both[1][0], longer[1][1])):
                self.assertIs(are_ways(20, -4, (0, 16), (0, 16), 0, Ways(steps, paths)), False)

    def test_ways_that_touch(self):
        """Each way by itself is right; both together are not apart."""
        steps, paths = other_ways(20, -4, (0, 16), (0, 16), 20, 0)
        found = [other_ways(20, -4, (16,), (16,), out, steps - other_ways(20, -4, (16,), (16,), out)[0]) for out in range(12, 30)]
        found = [told[1] for told in found if told[0] == steps]
        self.assertGreater(len(found), 5)
        for inner in found:
            self.assertIs(are_ways(20, -4, (16,), (16,), 0, Ways(steps, inner)), True)
            self.assertFalse(plain_fits(20, -4, (0, 16), (0, 16), steps, paths[:1] + inner))
            self.assertIs(are_ways(20, -4, (0, 16), (0, 16), 0, Ways(steps, paths[:1] + inner)), False)

    def test_bent_at_each_place(self):
        """A cell moved, left out or put in: the judge says what the words say."""
        found = {True: 0, False: 0}
        for told in (ways(20, -4, (0, 8), (8, 12), 0), Ways(*other_ways(20, -4, (0, 8), (8, 12), 0, 3))):
            for number, at in itertools.product(range(2), range(0, told.steps + 1)):
                path = told.paths[number]
                x, y = path[at]
                bents = [path[:at] + path[at + 1:], path[:at] + path[at:at + 1] + path[at:]]
                bents += [path[:at] + ((x + dx, y + dy),) + path[at + 1:] for dx, dy in ((0, 1), (0, -1), (1, 0), (-1, 0))]
                for bent in bents:
                    paths = (bent, told.paths[1]) if number == 0 else (told.paths[0], bent)
                    wanted = plain_fits(20, -4, (0, 8), (8, 12), told.steps, paths)
                    self.assertIs(are_ways(20, -4, (0, 8), (8, 12), 0, Ways(told.steps, paths)), wanted)
                    found[wanted] += 1
        self.assertGreater(min(found.values()), 2)

    def test_too_near_to_the_field(self):
        """Ways made for a field that is smaller on one side."""
        told = ways(20, -4, (0, 8), (0, 8), 0)
        lower = tuple(tuple((x, y + 1) for x, y in path) for path in told.paths)
        self.assertIs(are_ways(20, -3, (1, 9), (1, 9), 0, Ways(told.steps, lower)), True)
        self.assertIs(are_ways(20, -4, (1, 9), (1, 9), 0, Ways(told.steps, lower)), False)
        self.assertFalse(plain_fits(20, -4, (1, 9), (1, 9), told.steps, lower))
        for width in (19, 21, 18, 22):
            self.assertIs(are_ways(width, -4, (0, 8), (0, 8), 0, told), False)

    def test_each_step_is_asked(self):
        """A way that comes next to the field on its way up, down or to the left."""
        ahead, behind = [(20, 8), (21, 8), (22, 7)], [(-5, 7), (-4, 8), (-3, 8), (-2, 8), (-1, 8), (0, 8)]
        over = [(22, y) for y in range(2, -7, -1)] + [(22, -7)] + [(x, -8) for x in range(21, -5, -1)]
        down = [(-5, y) for y in range(-7, 7)]
        for bend, wanted in (
            ([(22, 6), (23, 5), (23, 4), (22, 3)], True), ([(22, 6), (22, 5), (22, 4), (22, 3)], True),
            ([(22, 6), (21, 5), (21, 4), (22, 3)], False), ([(22, 6), (22, 5), (21, 4), (22, 3)], False),
        ):
            path = tuple(ahead + bend + over + down + behind)
            self.assertTrue(plain_is_path(path))
            self.assertIs(plain_fits(20, -4, (8,), (8,), len(path) - 1, (path,)), wanted)
            self.assertIs(are_ways(20, -4, (8,), (8,), 0, Ways(len(path) - 1, (path,))), wanted)
        for low in (-6, -5):
            # The upper run just two lines above the field, and one line.
            path = [(20, 8), (21, 8)] + [(22, y) for y in range(7, low, -1)] + [(x, low) for x in range(21, -4, -1)]
            path = tuple(path + [(-4, y) for y in range(low + 1, 8)] + [(-3, 8), (-2, 8), (-1, 8), (0, 8)])
            self.assertTrue(plain_is_path(path))
            self.assertIs(plain_fits(20, -4, (8,), (8,), len(path) - 1, (path,)), low == -6)
            self.assertIs(are_ways(20, -4, (8,), (8,), 0, Ways(len(path) - 1, (path,))), low == -6)


class Rounds(Asking):
    def test_sparks_on_all_ways(self):
        """Fact D of [41], on a board of the ways alone."""
        for width, starts, ends in ((20, (0, 8, 16), (0, 8, 16)), (40, (4, 12), (0, 30))):
            told = ways(width, -4, starts, ends, 0)
            cells = tuple(cell for path in told.paths for cell in path)
            lit = tuple((width, (width, start)) for start in starts)
            for end in ends:
                self.assertEqual(stream(cells, BARE, period_of(width, told) + 50, lit, (0, end)), (period_of(width, told),))


class Sizes(Asking):
    def test_eight_long_ways(self):
        ys = tuple(range(0, 64, 8))
        for width, least in ((20000, 0), (20000, 20000), (2, 20000), (2, 0)):
            told = ways(width, -4, ys, ys, least)
            self.assertGreaterEqual(told.steps, least)
            self.assertIs(are_ways(width, -4, ys, ys, least, told), True)
            self.assertTrue(plain_fits(width, -4, ys[:1], ys[:1], told.steps, told.paths[:1]))
            bent = told.paths[:7] + (told.paths[7][:-1] + ((0, 55),),)
            self.assertIs(are_ways(width, -4, ys, ys, least, Ways(told.steps, bent)), False)

    def test_ys_far_apart(self):
        starts = (0, 4, 3000, 9000)
        for width in (2, 1000):
            for ends in ((0, 4, 8, 12), (0, 5000, 5004, 20000)):
                told = ways(width, -4, starts, ends, 0)
                self.assertIs(are_ways(width, -4, starts, ends, 0, told), True)
                self.assertTrue(plain_fits(width, -4, starts[3:], ends[3:], told.steps, told.paths[3:]))

    def test_wide_wires(self):
        for height in (3, 17, 40):
            most = most_extra(20000, height)
            for extra in (0, 1, most // 2, most - 1, most):
                cells = padded(20000, height, extra)
                self.assertEqual(len(cells), 20001 + extra)
                self.assertIs(is_path(cells), True)

    def test_many_small_ones(self):
        for least in range(0, 400, 2):
            self.assertIs(are_ways(20, -4, (0, 8), (0, 8), least, ways(20, -4, (0, 8), (0, 8), least)), True)
