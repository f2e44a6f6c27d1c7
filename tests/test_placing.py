"""[33] to [37]: programs laid out as cells, and sparks on their borders."""

import itertools
import random

from sparkboard.cells import Stand, later
from sparkboard.errors import BadNumber, BadRow
from sparkboard.placing import border_bits, border_stand, crossed, laid, live_rows
from sparkboard.programs import Program, borders, held
from tests.asking import Asking
from tests.plain import Strange, all_bits, only_tuples, plain_neighbours, rows_of_bits, strange_values, wrong_counts
from tests.plain_boards import Near, plain_go, plain_laid, plain_live, plain_live_bits, some_parts
from tests.plain_tiles import KINDS, OUTS, all_stages, plain_rows_of, plain_top, random_stages

# Row 0 has an input, row 2 a register; a tile leads row 2 up, another one makes a xor of rows 0 and 1.
TOGGLE = (
    3, (0,), ((2, 0),),
    ((("wire", 0), ("up", 2)), (("xor", 0),), (("copy", 0),), (("wire", 0), ("down", 1))), (0,), (2,),
)
BARE = Stand((), ())


def wrong_borders(stages):
    """Values that are no integers from 0 to so many."""
    return wrong_counts() + [stages + 1, stages + 10 ** 30]


class Live(Asking):
    def test_a_toggle(self):
        program = Program(*TOGGLE)
        self.assertEqual([live_rows(program, s) for s in range(5)], [(0, 2), (0, 1), (0,), (0, 1), (0, 2)])

    def test_each_kind(self):
        for kind, rows in (
            ("wire", (1,)), ("up", (0,)), ("down", (2,)), ("copy", (1, 2)), ("or", (1,)), ("xor", (1,)), ("but", (1,)),
        ):
            program = Program(3, (), (), (((kind, 1),),), (), ())
            self.assertEqual(live_rows(program, 1), rows)
            self.assertEqual(live_rows(program, 0), ())

    def test_inputs_and_registers_ascend(self):
        program = Program(6, (5, 0), ((4, 1), (1, 0)), (), (2, 3), (0,))
        self.assertEqual(live_rows(program, 0), (0, 1, 4, 5))

    def test_random_programs(self):
        for parts in some_parts(1, 100):
            program = Program(*parts)
            for s in range(len(parts[3]) + 1):
                told = self.assert_unchanged(live_rows, program, s)
                self.assertEqual(told, plain_live(parts, s))
                self.assertTrue(only_tuples(told))

    def test_wrong_borders(self):
        for parts in (TOGGLE, (1, (0,), (), (), (), (0,))):
            for s in wrong_borders(len(parts[3])):
                self.assert_error(BadNumber, ("border", s), live_rows, Program(*parts), s)


class Laid(Asking):
    def test_one_wire(self):
        program = Program(1, (0,), (), ((("wire", 0),),), (), (0,))
        self.assertEqual(laid(program), tuple((x, 0) for x in range(21)))

    def test_ports_of_both_ends(self):
        self.assertEqual(laid(Program(4, (2,), ((0, 1),), (), (1,), (2,))), ((0, 0), (0, 8), (0, 16)))
        self.assertEqual(laid(Program(4, (2,), ((0, 1),), ((),), (1,), (2,))), ((0, 0), (0, 16), (20, 8), (20, 16)))
        self.assertEqual(laid(Program(1, (), (), (), (), ())), ())
        self.assertEqual(laid(Program(9, (), (), ((), (), ()), (), (8,))), ((60, 64),))

    def test_random_programs(self):
        for parts in some_parts(2, 100, 7, 6):
            told = self.assert_unchanged(laid, Program(*parts))
            self.assertEqual(told, plain_laid(parts))
            self.assertTrue(only_tuples(told))


def side_by_side(cells, others):
    """All pairs of neighbours of two lots."""
    others = set(others)
    return sorted((cell, near) for cell in cells for near in plain_neighbours(cell) if near in others)


def cells_of_tile(tile, s):
    return set(plain_laid((99, (), (), ((),) * s + ((tile,),), (), ())))


class FactA(Asking):
    """[34]: which cells of the tiles of a program are neighbours."""

    def assert_joined(self, one, other, s):
        """Tiles one of stage s and other of the next stage: only an out port and the in port of its row."""
        given = {plain_top(one) + out for out in OUTS[one[0]]}
        cells, others = cells_of_tile(one, s), cells_of_tile(other, s + 1)
        wanted = [((20 * s + 19, 8 * row), (20 * s + 20, 8 * row)) for row in sorted(given)
                  if (20 * s + 20, 8 * row) in others]
        self.assertEqual(side_by_side(cells, others), wanted)
        self.assertFalse(cells & others)

    def test_tiles_of_stages_side_by_side(self):
        tiles = [(kind, row) for kind, row in itertools.product(KINDS, range(5)) if min(plain_rows_of((kind, row))) >= 0]
        for one, other in itertools.product(tiles, tiles):
            self.assert_joined(one, other, 1)

    def test_tiles_of_one_stage(self):
        for stage in all_stages(4):
            for one, other in itertools.combinations(stage, 2):
                cells, others = cells_of_tile(one, 0), cells_of_tile(other, 0)
                self.assertFalse(cells & others)
                self.assertEqual(side_by_side(cells, others), [])

    def test_laid_has_no_cell_twice(self):
        for parts in some_parts(3, 60, 6, 5):
            tiles = [(s, tile) for s, stage in enumerate(parts[3]) for tile in stage]
            lone = Program(parts[0], (), (), parts[3], (), ())
            self.assertEqual(len(laid(lone)), sum(len(cells_of_tile(tile, s)) for s, tile in tiles))

    def test_ports_of_both_ends(self):
        for parts in some_parts(4, 100, 6, 3, 1):
            cells, last = laid(Program(*parts)), 20 * len(parts[3])
            inner = set(laid(Program(parts[0], (), (), parts[3], (), ())))
            for cell in cells:
                near = [other for other in plain_neighbours(cell) if other in cells]
                if cell[0] == 0 and cell not in inner:
                    self.assertEqual(near, [])
                if cell[0] == last:
                    self.assertEqual(near, [other for other in [(last - 1, cell[1])] if other in inner])
                    row = cell[1] // 8
                    self.assertEqual(bool(near), row in plain_live(parts, len(parts[3])))


class Borders(Asking):
    def test_a_toggle(self):
        program = Program(*TOGGLE)
        self.assertEqual(border_stand(program, 0, (1, 1)), Stand(((0, 0), (0, 16)), ()))
        self.assertEqual(border_stand(program, 0, [0, 1]), Stand(((0, 16),), ()))
        self.assertEqual(border_stand(program, 1, (1, 1)), Stand(((20, 0), (20, 8)), ((19, 0), (19, 8))))
        self.assertEqual(border_stand(program, 2, (1,)), Stand(((40, 0),), ((39, 0),)))
        self.assertEqual(border_stand(program, 4, (1, 0)), Stand(((80, 0),), ((79, 0),)))
        self.assertEqual(border_stand(program, 4, (0, 0)), BARE)

    def test_a_row_that_no_tile_reads(self):
        """Its port is a head on border 0 alone."""
        stages = ((("copy", 0),), (("wire", 0),))
        program = Program(3, (0, 2), (), stages, (), (0,))
        self.assertEqual(border_stand(program, 0, (1, 1)), Stand(((0, 0), (0, 16)), ()))
        self.assertEqual(border_stand(program, 1, (1, 1)), Stand(((20, 0),), ((19, 0), (19, 8))))
        self.assertEqual(border_stand(program, 1, (0, 1)), Stand((), ((19, 8),)))
        wider = Program(3, (0, 2), (), stages[:1], (), ())
        self.assertEqual(border_stand(wider, 1, (1, 1)), Stand((), ((19, 0), (19, 8))))

    def test_bits_of_any_stand(self):
        program = Program(*TOGGLE)
        self.assertEqual(border_bits(program, 0, Stand(((0, 16),), ((0, 0),))), (0, 1))
        self.assertEqual(border_bits(program, 1, Stand(((20, 0), (19, 0)), ((20, 8),))), (0, 0))
        self.assertEqual(border_bits(program, 1, Stand(((20, 0),), ((19, 8), (99, 9)))), (0, 1))
        self.assertEqual(border_bits(program, 2, Stand((), ((39, 0), (39, 8)))), (1,))
        self.assertEqual(border_bits(Program(1, (), (), (), (), ()), 0, BARE), ())

    def test_random_programs(self):
        """Stands as [35] tells them, and bits from them."""
        for parts in some_parts(5, 80, 4):
            program, cells = Program(*parts), set(plain_laid(parts))
            for s in range(len(parts[3]) + 1):
                live = plain_live(parts, s)
                for bits in all_bits(len(live)):
                    ports = [(20 * s, 8 * row) for row, bit in zip(live, bits) if bit]
                    heads = [cell for cell in ports if cell in cells]
                    wanted = Stand(heads, [(x - 1, y) for x, y in ports] if s else ())
                    told = self.assert_unchanged(border_stand, program, s, list(bits))
                    self.assertEqual(told, wanted)
                    self.assertEqual(self.assert_unchanged(border_bits, program, s, told), bits)

    def test_wrong_borders(self):
        program = Program(*TOGGLE)
        for s in wrong_borders(4):
            self.assert_error(BadNumber, ("border", s), border_stand, program, s, None)
            self.assert_error(BadNumber, ("border", s), border_bits, program, s, BARE)

    def test_wrong_bits(self):
        program = Program(*TOGGLE)
        for bits in strange_values() + [(), (0,), (0, 0, 0), (0, 2), (True, 0), [0, False], (-1, 0), "00", (None, 0), {0, 1}]:
            self.assert_error(BadRow, (bits,), border_stand, program, 0, bits)
        for bits in ((), (0, 0), (2,), [True], 0, None):
            self.assert_error(BadRow, (bits,), border_stand, program, 2, bits)


class FactB(Asking):
    """[35]: from border to border, by the one rule."""

    def assert_crossing(self, parts, s, bits):
        program, cells = Program(*parts), plain_laid(parts)
        ahead = [0] * parts[0]
        for row, bit in zip(plain_live(parts, s), bits):
            ahead[row] = bit
        behind = borders(parts[0], parts[3][s:s + 1], ahead)[1]
        wanted = border_stand(program, s + 1, [behind[row] for row in plain_live(parts, s + 1)])
        stand = border_stand(program, s, bits)
        self.assertEqual(later(laid(program), stand, 20), wanted)
        near, heads, tails = Near(cells), set(stand.heads), set(stand.tails)
        for moment in range(1, 21):
            heads, tails = plain_go(near, heads, tails)
            ports = {(x, y) for x, y in heads if x % 20 == 0 and y % 8 == 0}
            self.assertEqual(ports, set() if moment < 20 else set(wanted.heads))
        self.assertEqual((heads, tails), (set(wanted.heads), set(wanted.tails)))

    def test_each_stage_of_three_rows(self):
        """Each stage behind one of three wires, and one that reads all rows behind it."""
        wires = (("wire", 0), ("wire", 1), ("wire", 2))
        for stage in all_stages(3):
            parts = (3, (0, 1, 2), (), (wires, stage, wires), (), (0, 2))
            for bits in all_bits(3):
                self.assert_crossing(parts, 1, bits)

    def test_random_programs(self):
        for number, parts in enumerate(some_parts(6, 80, 6, 4, 1)):
            for s in range(len(parts[3])):
                bits = rows_of_bits(number, len(plain_live(parts, s)), 1)[0]
                self.assert_crossing(parts, s, bits)


class Waves(Asking):
    """[36]: row after row of bits, GAP moments apart or more."""

    def assert_waves(self, parts, rows, p):
        program, cells = Program(*parts), set(plain_laid(parts))
        last = len(parts[3])
        lives = [plain_live(parts, s) for s in range(last + 1)]
        told = [plain_live_bits(parts, bits) for bits in rows]
        self.assertEqual(self.assert_unchanged(crossed, program, rows, p), tuple(bits[last] for bits in told))
        wanted = set()
        for number, bits in enumerate(told):
            for s, live in enumerate(lives):
                ports = [(20 * s, 8 * row) for row, bit in zip(live, bits[s]) if bit]
                wanted |= {(number * p + 20 * s, port) for port in ports if port in cells}
        found, near, heads, tails = set(), Near(cells), set(), set()
        for moment in range(len(rows) * p + 20 * last + 40):
            heads, tails = plain_go(near, heads, tails)
            if moment % p == 0 and moment // p < len(rows):
                heads |= {(0, 8 * row) for row, bit in zip(lives[0], rows[moment // p]) if bit}
            found |= {(moment, (x, y)) for x, y in heads if x % 20 == 0 and y % 8 == 0}
        self.assertEqual(found, wanted)
        self.assertEqual((heads, tails), (set(), set()))

    def test_a_toggle(self):
        self.assertEqual(crossed(Program(*TOGGLE), ((1, 0), (0, 1), [1, 1], (0, 0)), 24), ((1, 1), (1, 1), (0, 0), (0, 0)))
        self.assertEqual(crossed(Program(*TOGGLE), [[1, 0]], 1000), ((1, 1),))
        self.assertTrue(only_tuples(crossed(Program(*TOGGLE), [[1, 0]], 24)))

    def test_no_rows_and_no_stages(self):
        self.assertEqual(crossed(Program(*TOGGLE), (), 24), ())
        self.assertEqual(crossed(Program(*TOGGLE), [], 25), ())
        bare = Program(3, (2,), ((0, 1),), (), (1,), (2,))
        self.assertEqual(crossed(bare, ((0, 1), (1, 0)), 24), ((0, 1), (1, 0)))
        self.assertEqual(crossed(Program(1, (), (), ((),), (), ()), ((), ()), 24), ((), ()))

    def test_random_programs(self):
        chance = random.Random(7)
        for number, parts in enumerate(some_parts(8, 60, 6, 5)):
            rows = rows_of_bits(number, len(plain_live(parts, 0)), chance.randrange(1, 5))
            self.assert_waves(parts, rows, chance.choice((24, 25, 30, 41, 77)))

    def test_wrong_rows(self):
        program = Program(*TOGGLE)
        for rows in strange_values() + [
            ((),), ((0,),), ((0, 0, 0),), ((2, 0),), ((0, 0), (0, True)), [[0, 1], [False, 0]], ((0, 0), 0), (0, 0), "00",
            ((0, 1), None), {(0, 0)}, ((0, 0), Strange()), ((-1, 0),), ((1, 0), (1,)), 0,
        ]:
            self.assert_error(BadRow, (rows,), crossed, program, rows, 24)
            self.assert_error(BadRow, (rows,), crossed, program, rows, None)

    def test_wrong_gaps(self):
        for p in wrong_counts() + [0, 1, 23]:
            self.assert_error(BadNumber, ("gap", p), crossed, Program(*TOGGLE), ((0, 1),), p)


class Sizes(Asking):
    def setUp(self):
        self.parts = (12, tuple(range(0, 12, 2)), ((1, 1), (3, 0)), random_stages(random.Random(9), 12, 400, 0), (5, 6), (0, 1))
        self.program = Program(*self.parts)

    def test_400_stages_of_12_rows(self):
        cells = laid(self.program)
        self.assertEqual(cells, plain_laid(self.parts))
        self.assertLess(len(cells), 400 * 6 * 60)
        for s in range(401):
            live = plain_live(self.parts, s)
            self.assertEqual(live_rows(self.program, s), live)
            bits = tuple(row % 2 for row in live)
            self.assertEqual(border_bits(self.program, s, border_stand(self.program, s, bits)), bits)

    def test_crossed_at_its_limits(self):
        stages = held(tuple(range(12)), 10) + random_stages(random.Random(10), 12, 10, 0.1) + held(tuple(range(12)), 10)
        parts = (12, tuple(range(12)), (), stages, (), ())
        rows = rows_of_bits(11, 12, 6)
        for p in (24, 100, 1000):
            self.assertEqual(crossed(Program(*parts), rows, p), tuple(plain_live_bits(parts, bits)[-1] for bits in rows))
