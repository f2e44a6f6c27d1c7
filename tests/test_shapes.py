"""[23], [24]: what shapes do by the one rule, and which shapes are tiles."""

import itertools
import random
import unittest

from sparkboard.cells import Stand, stream
from sparkboard.tiles import is_tile, kinds, tile_cells
from tests.plain import Strange, all_bits, strange_values
from tests.plain_tiles import INS, WORDS, in_ports, lit_of, out_ports, plain_is_tile, plain_run_of


def line(*corners):
    """The cells from one corner to the next one, level, upright or aslant."""
    cells = list(corners[:1])
    for u, v in corners[1:]:
        while cells[-1] != (u, v):
            x, y = cells[-1]
            cells.append((x + (u > x) - (u < x), y + (v > y) - (v < y)))
    return cells


def sorted_cells(*lots):
    return tuple(sorted(set(itertools.chain(*lots))))


WIRE = tile_cells("wire")


class Facts(unittest.TestCase):
    def test_each_shape_is_a_tile_of_its_kind(self):
        for kind in kinds():
            self.assertIs(is_tile(kind, tile_cells(kind)), True)

    def test_no_shape_is_a_tile_of_another_kind(self):
        for kind, other in itertools.product(kinds(), repeat=2):
            self.assertIs(is_tile(kind, tile_cells(other)), kind == other)

    def test_one_event(self):
        for kind in kinds():
            for bits in all_bits(len(INS[kind])):
                lit = [(0, port) for port in lit_of(in_ports(kind), bits)]
                cells = tile_cells(kind)
                for port in in_ports(kind):
                    wanted = (0,) if (0, port) in lit else ()
                    self.assertEqual(stream(cells, Stand((), ()), 40, lit, port), wanted)
                for port, bit in zip(out_ports(kind), WORDS[kind](*bits)):
                    self.assertEqual(stream(cells, Stand((), ()), 40, lit, port), (19,) * bit)

    def check_events(self, kind, events):
        """Events at moments, with bits: Fact B, by the program's rule and by a plain one."""
        cells = tile_cells(kind)
        lit = [(moment, port) for moment, bits in events for port in lit_of(in_ports(kind), bits)]
        end = max(moment for moment, _ in events) + 40
        by_moments = {moment: lit_of(in_ports(kind), bits) for moment, bits in events}
        stands = plain_run_of(cells, by_moments, end + 1)
        for at, port in enumerate(in_ports(kind)):
            wanted = tuple(moment for moment, bits in events if bits[at])
            self.assertEqual(stream(cells, Stand((), ()), end, lit, port), wanted)
            self.assertEqual(tuple(moment for moment, (heads, _) in enumerate(stands) if port in heads), wanted)
        for at, port in enumerate(out_ports(kind)):
            wanted = tuple(moment + 19 for moment, bits in events if WORDS[kind](*bits)[at])
            self.assertEqual(stream(cells, Stand((), ()), end, lit, port), wanted)
            self.assertEqual(tuple(moment for moment, (heads, _) in enumerate(stands) if port in heads), wanted)

    def test_all_pairs_of_events_21_moments_apart(self):
        for kind in kinds():
            for one, other in itertools.product(all_bits(len(INS[kind])), repeat=2):
                self.check_events(kind, [(0, one), (21, other)])

    def test_long_streams_21_moments_apart(self):
        chance = random.Random(1)
        for kind in kinds():
            rows = [tuple(chance.randrange(2) for _ in INS[kind]) for _ in range(30)]
            self.check_events(kind, [(21 * number, bits) for number, bits in enumerate(rows)])

    def test_streams_further_apart(self):
        chance = random.Random(2)
        for kind in kinds():
            for _ in range(5):
                moments = itertools.accumulate(chance.choice((21, 21, 22, 23, 24, 30)) for _ in range(8))
                rows = [tuple(chance.randrange(2) for _ in INS[kind]) for _ in range(8)]
                self.check_events(kind, list(zip(moments, rows)))


class Judging(unittest.TestCase):
    def check(self, kind, cells):
        told = is_tile(kind, cells)
        self.assertIs(told, plain_is_tile(kind, cells), (kind, cells))
        return told

    def test_one_cell_more_or_less(self):
        for kind in kinds():
            base = set(tile_cells(kind))
            found = 0
            for spot in itertools.product(range(-1, 21), range(-2, 11)):
                found += self.check(kind, tuple(sorted(base ^ {spot})))
            self.assertGreater(found, 50)

    def test_many_cells_more_or_less(self):
        chance = random.Random(3)
        spots = list(itertools.product(range(20), range(-1, 10)))
        for kind in kinds():
            for _ in range(30):
                some = set(chance.sample(spots, chance.randrange(2, 6)))
                self.check(kind, tuple(sorted(set(tile_cells(kind)) ^ some)))

    def test_random_cells(self):
        chance = random.Random(4)
        spots = list(itertools.product(range(20), range(-1, 10)))
        for _ in range(100):
            cells = tuple(sorted(chance.sample(spots, chance.randrange(221))))
            for kind in kinds():
                self.check(kind, cells)

    def test_where_cells_may_lie(self):
        """A cell apart from a wire changes nothing that sparks do."""
        for spot, wanted in (
            ((9, 5), True), ((9, 9), True), ((9, 10), False), ((9, -2), False), ((9, 8), True), ((-1, 5), False),
            ((20, 5), False), ((0, 5), False), ((1, 5), False), ((0, 8), False), ((1, 8), False), ((2, 8), True),
            ((17, 8), True), ((18, 8), False), ((19, 8), False), ((18, 4), False), ((19, 9), False), ((2, 9), True),
            ((9, 100), False), ((1000, 5), False), ((-30, 0), False), ((0, -1), False), ((21, 0), False),
        ):
            self.assertIs(self.check("wire", sorted_cells(WIRE, [spot])), wanted, spot)
        up = tile_cells("up")
        for spot, wanted in (
            ((0, 0), False), ((1, 0), False), ((2, 0), True), ((17, 8), True), ((18, 8), False), ((19, 8), False),
            ((0, -1), False), ((9, -1), True), ((8, 9), True),
        ):
            self.assertIs(self.check("up", sorted_cells(up, [spot])), wanted, spot)

    def test_line_above_the_first_one(self):
        copy = tile_cells("copy")
        self.assertIn((5, -1), copy)
        detour = sorted_cells(line((0, 0), (5, 0)), line((6, -1), (10, -1)), line((11, 0), (19, 0)))
        self.assertIs(self.check("wire", detour), True)
        detour = sorted_cells(line((0, 0), (5, 0)), line((6, -1), (7, -2), (8, -1)), line((9, 0), (19, 0)))
        self.assertIs(self.check("wire", detour), False)

    def test_other_shapes_that_are_tiles(self):
        self.assertIs(self.check("wire", sorted_cells(line((0, 0), (1, 0), (8, 7), (10, 7), (17, 0), (19, 0)))), True)
        self.assertIs(self.check("down", sorted_cells(line((0, 0), (1, 0), (9, 8), (19, 8)))), True)
        self.assertIs(self.check("up", sorted_cells(line((0, 8), (11, 8), (19, 0)))), False)
        self.assertIs(self.check("up", sorted_cells(line((0, 8), (10, 8), (18, 0), (19, 0)))), True)

    def test_a_port_that_is_not_there(self):
        for kind in kinds():
            for port in in_ports(kind) + out_ports(kind):
                cells = tuple(cell for cell in tile_cells(kind) if cell != port)
                self.assertIs(self.check(kind, cells), False)

    def test_too_late(self):
        """An upright step: the spark comes a moment later."""
        late = sorted_cells(line((0, 0), (5, 0), (8, 3), (8, 4), (9, 5), (14, 0), (19, 0)))
        self.assertIs(self.check("wire", late), False)

    def test_a_spark_that_comes_back_to_an_in_port(self):
        """A plain joint of two wires: each spark runs back along the other one, and all is bare by then."""
        joint = sorted_cells(
            line((0, 0), (1, 0), (4, 3), (5, 4), (9, 0), (19, 0)), line((0, 8), (1, 8), (4, 5)),
        )
        stands = plain_run_of(joint, {0: {(0, 0)}}, 21)
        self.assertIn((0, 8), stands[10][0])
        self.assertEqual(stands[20], (set(), {(19, 0)}))
        self.assertIs(self.check("or", joint), False)

    def test_sparks_that_are_left(self):
        """The lower arm of copy, cut off and turned up: how long its spark goes on."""
        arm = sorted_cells(line((0, 0), (4, 0)), [(5, -1), (6, -1)], line((7, 0), (19, 0)), line((5, 1), (12, 8), (16, 8)))
        for end, wanted in ((8, True), (7, True), (6, True), (5, False), (4, False), (3, False)):
            cells = sorted_cells(arm, [(17, y) for y in range(end, 8)])
            self.assertIs(self.check("wire", cells), wanted, end)

    def test_all_bits_count(self):
        """An or that tells the word for one input alone, and an xor taken for one."""
        self.assertIs(is_tile("or", tile_cells("xor")), False)
        self.assertIs(is_tile("xor", tile_cells("or")), False)
        one = sorted_cells(line((0, 0), (19, 0)), [(0, 8)])
        for kind in ("or", "xor", "but"):
            self.assertIs(self.check(kind, one), False)

    def test_kinds_of_values(self):
        for kind in kinds():
            right = tile_cells(kind)
            values = strange_values() + [
                list(right), tuple([list(right[0])] + list(right[1:])), tuple(list(cell) for cell in right),
                right[::-1], right[:1] + right, right + right[-1:], right[1:2] + right[:1] + right[2:], set(right),
                dict.fromkeys(right), right + (None,), (None,) + right, right + (Strange(),), (Strange(),) + right,
                right[:-1] + ((19.0, right[-1][1]),), right[:-1] + ((19, float(right[-1][1])),), right + ((19, True),),
                ((0, False),) + right[1:], ((False, right[0][1]),) + right[1:], right + ("ab",), (right,), right + ((20,),),
                right[:-1] + (right[-1] + (0,),), iter(right), kind, right + ((10 ** 5000, 0),), ((-10 ** 5000, 0),) + right,
                ((), ) + right, right + ((),), (),
            ]
            for value in values:
                self.assertIs(is_tile(kind, value), False)

    def test_many_cells(self):
        every = tuple(itertools.product(range(20), range(-1, 10)))
        for kind in kinds():
            self.assertIs(self.check(kind, every), False)
            inner = [spot for spot in every if 1 < spot[0] < 18]
            self.assertIs(self.check(kind, sorted_cells(inner, in_ports(kind), out_ports(kind))), False)
            self.assertIs(is_tile(kind, tuple((x, 0) for x in range(300))), False)
            self.assertIs(is_tile(kind, sorted_cells(tile_cells(kind), [(x, 50) for x in range(270)])), False)


if __name__ == "__main__":
    unittest.main()
