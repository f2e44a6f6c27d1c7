"""[54] to [56]: cells put in or out, and the least row that shows it."""

import itertools
import random

from sparkboard.boards import Board, board_for, board_of, shown
from sparkboard.cells import Stand
from sparkboard.circuits import Circuit
from sparkboard.errors import BadCell, BadNumber, BadRow, Unlike
from sparkboard.faults import Differs, Never, SameTo, faulty, is_told, least_line, period_behind
from sparkboard.programs import Program
from tests.asking import Asking
from tests.plain import Strange, all_bits, only_tuples, plain_neighbours, random_plan, rows_of_bits, strange_values, wrong_counts
from tests.plain_boards import plain_period
from tests.test_boards import PARTS, WIRE, board_parts, random_board
from tests.test_judge import TWO, changed
from tests.test_placing import TOGGLE

# A wire from its entry to its exit, and a ring on which a spark runs round in eight moments.
RING = ((0, 1), (1, 0), (2, 0), (3, 1), (3, 2), (2, 3), (1, 3), (0, 2))


def plain_least_lines(one, other, most):
    """The least number of periods behind which both show unlike things, at most most; and whether pairs are closed."""
    known = ({}, {})

    def period(side, board, stand, bits):
        if (stand, bits) not in known[side]:
            known[side][stand, bits] = plain_period(board, *stand, bits)
        return known[side][stand, bits]

    level = {((one.heads, one.tails), (other.heads, other.tails))}
    seen = set()
    for many in range(1, most + 1):
        seen |= level
        following = set()
        for stand, counterstand in level:
            for bits in all_bits(len(one.entries)):
                behind, told = period(0, one, stand, bits)
                counterbehind, countertold = period(1, other, counterstand, bits)
                if told != countertold:
                    return many, False
                following.add((behind, counterbehind))
        level = following - seen
        if not level:
            return None, True
    return None, False


def plain_lines(board, lines):
    """What a board shows in each period, [55], from its own heads and tails on."""
    stand, told = (board.heads, board.tails), []
    for bits in lines:
        stand, bits_shown = plain_period(board, *stand, bits)
        told.append(bits_shown)
    return told


def pair_of(stand):
    return stand.heads, stand.tails


def plain_closed(one, other, pairs):
    """What [56] says of the pairs of a Never, as pairs of (heads, tails)."""
    first = ((one.heads, one.tails), (other.heads, other.tails))
    if len(set(pairs)) != len(pairs) or first not in pairs:
        return False
    for stand, counterstand in pairs:
        for bits in all_bits(len(one.entries)):
            behind, told = plain_period(one, *stand, bits)
            counterbehind, countertold = plain_period(other, *counterstand, bits)
            if told != countertold or (behind, counterbehind) not in pairs:
                return False
    return True


def free_cells(board):
    return [cell for cell in board.cells if cell not in board.entries + board.exits]


class Faulty(Asking):
    def test_in_and_out(self):
        board = Board(WIRE, ((3, 0), (5, 0)), ((2, 0), (1, 0)), ((0, 0),), ((7, 0),), 9, 4)
        told = self.assert_unchanged(faulty, board, [("in", [4, 1]), ["out", (3, 0)], ("out", (2, 0)), ("in", (0, -1))])
        cells = tuple(sorted(set(WIRE) - {(3, 0), (2, 0)} | {(4, 1), (0, -1)}))
        self.assertEqual(board_parts(told), (cells, ((5, 0),), ((1, 0),), ((0, 0),), ((7, 0),), 9, 4))
        self.assertTrue(only_tuples(board_parts(told)))
        self.assertIs(told.__class__, Board)
        for none in ((), []):
            self.assertTrue(faulty(board, none) == board)

    def test_random_faults(self):
        chance = random.Random(1)
        for _ in range(100):
            board = random_board(chance)
            around = {(x, y) for x in range(-1, 8) for y in range(-1, 6)} - set(board.cells)
            outs = chance.sample(free_cells(board), min(len(free_cells(board)), chance.randrange(4)))
            ins = chance.sample(sorted(around), chance.randrange(4))
            faults = [("in", cell) for cell in ins] + [("out", cell) for cell in outs]
            chance.shuffle(faults)
            told = faulty(board, faults)
            self.assertEqual(set(told.cells), set(board.cells) - set(outs) | set(ins))
            self.assertEqual(set(told.heads), set(board.heads) - set(outs))
            self.assertEqual(set(told.tails), set(board.tails) - set(outs))
            self.assertEqual(board_parts(told)[3:], board_parts(board)[3:])

    def test_wrong_cells(self):
        board = Board(WIRE, (), (), ((0, 0),), ((7, 0),), 9, 4)
        good = [("in", (4, 4)), ("out", (1, 0))]
        for what, cell in (
            ("in", (3, 0)), ("in", [0, 0]), ("out", (4, 4)), ("out", [9, 9]), ("out", (0, 0)), ("out", (7, 0)), ("in", (4,)),
            ("in", (4, 4, 4)), ("in", (True, 5)), ("in", (5, False)), ("in", (5.0, 5)), ("in", None), ("out", None), ("in", "45"),
            ("on", (5, 5)), ("", (5, 5)), (None, (5, 5)), (b"in", (5, 5)), (("in",), (5, 5)), (True, (3, 0)), (Strange(), (5, 5)),
            ("In", (5, 5)), ("out ", (3, 0)), (1, (3, 0)), ("in", Strange()), ("out", Strange()), ((3, 0), "out"), ((5, 5), "in"),
            ("out", (3.0, 0)), ("out", {3: 0}), ("out", "out"),
        ):
            for fault in ((what, cell), [what, cell]):
                self.assert_error(BadCell, (cell,), faulty, board, [fault])
                self.assert_error(BadCell, (cell,), faulty, board, good + [fault, ("in", (4, 4)), None])

    def test_no_pairs(self):
        board = Board(WIRE, (), (), ((0, 0),), ((7, 0),), 9, 4)
        for item in strange_values() + [("in",), ("in", 5, 5), ["in", (5, 5), None], (), "in", "io", (5,)]:
            if isinstance(item, (tuple, list)) and len(item) == 2:
                continue
            self.assert_error(BadCell, (item,), faulty, board, (item,))
            self.assert_error(BadCell, (item,), faulty, board, (("in", (5, 5)), item, ("in", (5, 5))))

    def test_a_cell_twice(self):
        board = Board(WIRE, (), (), ((0, 0),), ((7, 0),), 9, 4)
        for one, other in (
            (("in", (5, 5)), ("in", [5, 5])), (("out", (5, 0)), ("out", [5, 0])), (("in", (5, 5)), ("out", [5, 5])),
            (("out", (5, 0)), ("in", [5, 0])),
        ):
            self.assert_error(BadCell, (other[1],), faulty, board, (one, ("in", (9, 9)), other, ("in", (9, 9))))

    def test_the_first_one_counts(self):
        board = Board(WIRE, (), (), ((0, 0),), ((7, 0),), 9, 4)
        wrong = [None, ("in", (1, 0)), ("off", (2, 2)), ("out", (0, 0)), 5]
        told = [None, (1, 0), (2, 2), (0, 0), 5]
        for order in itertools.permutations(range(5), 3):
            self.assert_error(BadCell, (told[order[0]],), faulty, board, tuple(wrong[at] for at in order))


class Behind(Asking):
    def assert_period(self, board, stand, bits):
        told = self.assert_unchanged(period_behind, board, stand, bits)
        behind, told_bits = plain_period(board, stand.heads, stand.tails, tuple(bits))
        self.assertIs(told.__class__, tuple)
        self.assertEqual((pair_of(told[0]), told[1]), (behind, told_bits))
        self.assertIs(told[0].__class__, Stand)
        self.assertTrue(only_tuples(told[1]))
        return told

    def test_a_wire(self):
        board = Board(WIRE, (), (), ((0, 0),), ((7, 0), (4, 0)), 10, 4)
        self.assertEqual(period_behind(board, Stand((), ()), (1,)), (Stand((), ()), (0, 1)))
        self.assertEqual(period_behind(board, Stand(((3, 0),), ((2, 0),)), [0]), (Stand((), ()), (1, 0)))
        short = changed(board, period=3)
        self.assertEqual(period_behind(short, Stand((), ()), (1,)), (Stand(((3, 0),), ((2, 0),)), (0, 1)))
        for delay, wanted in ((0, 1), (1, 0), (10, 0)):
            board = Board(WIRE, (), (), ((0, 0),), ((0, 0),), 10, delay)
            self.assertEqual(period_behind(board, Stand((), ()), (1,))[1], (wanted,))

    def test_an_entry_that_is_not_bare(self):
        board = Board(WIRE, (), (), ((0, 0),), ((1, 0),), 1, 1)
        self.assertEqual(period_behind(board, Stand((), ((0, 0),)), (1,)), (Stand((), ()), (0,)))
        self.assertEqual(period_behind(board, Stand(((0, 0),), ()), (1,)), (Stand(((1, 0),), ((0, 0),)), (1,)))

    def test_random_boards(self):
        chance = random.Random(2)
        for number in range(200):
            board = random_board(chance)
            kinds = [chance.choice("...HT") for _ in board.cells]
            heads = [cell for cell, kind in zip(board.cells, kinds) if kind == "H"]
            tails = [cell for cell, kind in zip(board.cells, kinds) if kind == "T"]
            for bits in all_bits(len(board.entries))[:4]:
                self.assert_period(board, Stand(heads, tails), list(bits))

    def test_period_by_period(self):
        """What shown tells is this, where [55] says so."""
        chance = random.Random(3)
        found = 0
        for number in range(200):
            board = random_board(chance)
            rows = rows_of_bits(number, len(board.entries), 5)
            if board.delay < board.period or board.delay == board.period and not set(board.exits) & set(board.entries):
                found += 1
                stand, told = Stand(board.heads, board.tails), []
                for bits in rows:
                    stand, bits_shown = period_behind(board, stand, bits)
                    told.append(bits_shown)
                self.assertEqual(tuple(told), shown(board, rows))
        self.assertGreater(found, 20)

    def test_wrong_stands(self):
        board = Board(*PARTS)
        class Like:
            heads, tails = (), ()

        for stand in strange_values() + [
            ((), ()), Like(), Stand, Stand(((9, 9),), ()), Stand((), ((9, 9),)), Stand(((0, 0), (8, 0)), ()), (Stand((), ()),), board,
        ]:
            self.assert_error(BadRow, (stand,), period_behind, board, stand, (0,))
            self.assert_error(BadRow, (stand,), period_behind, board, stand, None)

    def test_wrong_bits(self):
        board = Board(*PARTS)
        for bits in strange_values() + [(), (0, 0), (2,), (True,), [False], "0", 0, (None,), {0}, (-1,)]:
            self.assert_error(BadRow, (bits,), period_behind, board, Stand((), ()), bits)


class Objects(Asking):
    def test_fields(self):
        for make, name in ((Differs, "lines"), (Never, "pairs"), (SameTo, "most")):
            self.assertEqual(vars(make([1, [2]])), {name: (1, [2])})
            for value in strange_values():
                if not isinstance(value, list):
                    self.assertIs(getattr(make(value), name), value)
            self.assert_only_itself_equal(lambda make=make: make(3))


class Told(Asking):
    def assert_told(self, one, other, most):
        told = self.assert_unchanged(least_line, one, other, most)
        least, closed = plain_least_lines(one, other, most)
        if least is not None:
            self.assertIs(told.__class__, Differs)
            self.assertTrue(only_tuples(told.lines))
            self.assertEqual(len(told.lines), least)
            first, second = plain_lines(one, told.lines), plain_lines(other, told.lines)
            self.assertEqual(first[:-1], second[:-1])
            self.assertNotEqual(first[-1], second[-1])
        elif closed:
            self.assert_never(one, other, told)
        elif isinstance(told, Never):
            self.assert_never(one, other, told)
        else:
            self.assertIs(told.__class__, SameTo)
            self.assertEqual(told.most, most)
        self.assertIs(is_told(one, other, most, told), True)
        again = least_line(one, other, most)
        self.assertIs(again.__class__, told.__class__)
        self.assertEqual(vars(again), vars(told))
        return told

    def assert_never(self, one, other, told):
        self.assertIs(told.__class__, Never)
        self.assertIs(told.pairs.__class__, tuple)
        for pair in told.pairs:
            self.assertEqual((pair.__class__, [part.__class__ for part in pair]), (tuple, [Stand, Stand]))
        self.assertTrue(plain_closed(one, other, [(pair_of(stand), pair_of(counter)) for stand, counter in told.pairs]))

    def test_a_board_and_itself(self):
        chance = random.Random(4)
        for _ in range(60):
            board = random_board(chance)
            self.assertIsNot(self.assert_told(board, board, chance.randrange(1, 4)).__class__, Differs)

    def test_random_boards_with_faults(self):
        chance = random.Random(5)
        found = {}
        for _ in range(200):
            board = random_board(chance)
            cells = free_cells(board)
            if not cells:
                continue
            other = faulty(board, [("out", chance.choice(cells)), ("in", (chance.randrange(7), 5))])
            kind = self.assert_told(board, other, chance.randrange(1, 4)).__class__
            found[kind] = found.get(kind, 0) + 1
        self.assertGreater(min(found.get(kind, 0) for kind in (Differs, Never)), 10)

    def test_boards_of_programs(self):
        """Each part of some boards is looked at: cells taken out, and others put in next to them."""
        found = {}
        for number, parts in enumerate((TOGGLE, TWO)):
            board = board_of(Program(*parts))
            for cell in free_cells(board)[number::29]:
                near = [near for near in plain_neighbours(cell) if near not in board.cells]
                for fault in (("out", cell), ("in", near[number]), ("in", (cell[0], 500))):
                    kind = self.assert_told(board, faulty(board, [fault]), 2).__class__
                    found[kind] = found.get(kind, 0) + 1
        self.assertGreater(min(found.get(kind, 0) for kind in (Differs, Never)), 5)

    def test_a_fault_that_shows_late(self):
        """Two inputs in a row light the exit; the fault is where the second one comes by."""
        text = (1, (0,), (("and", 0, 1),), (0,), (2,))
        board = board_for(Circuit(*text))
        wider = faulty(board, [("in", (board.delay // 2, -2000))])
        self.assertIs(self.assert_told(board, wider, 1).__class__, SameTo)
        self.assertIs(self.assert_told(board, wider, 2).__class__, Never)
        self.assertIs(self.assert_told(board, wider, 5).__class__, Never)
        way = [cell for cell in board.cells if cell[1] < -4]
        broken = faulty(board, [("out", way[len(way) // 2])])
        self.assertIs(self.assert_told(board, broken, 1).__class__, SameTo)
        self.assertEqual(self.assert_told(board, broken, 2).lines, ((1,), (1,)))
        self.assertEqual(self.assert_told(broken, board, 6).lines, ((1,), (1,)))

    def ringed(self, period, delay):
        """A spark on a ring, seen each time a period is over; without entries."""
        return Board(RING, ((0, 1),), ((1, 0),), (), ((3, 1),), period, delay)

    def test_rings(self):
        """A spark comes back to its cell in eight moments: pairs are closed behind eight periods of one moment."""
        still = Board(RING, (), (), (), ((3, 1),), 1, 0)
        for most in range(1, 10):
            told = self.assert_told(self.ringed(1, 0), self.ringed(1, 0), most)
            self.assertEqual(told.__class__, SameTo if most < 8 else Never)
        self.assertEqual(len(told.pairs), 8)
        for most in range(1, 8):
            told = self.assert_told(self.ringed(1, 0), still, most)
            self.assertEqual(told.__class__, SameTo if most < 6 else Differs)
        self.assertEqual(told.lines, ((),) * 6)
        self.assertEqual(self.assert_told(self.ringed(3, 5), self.ringed(3, 5), 9).__class__, Never)

    def test_unlike_boards(self):
        board = Board(*PARTS)
        for parts in (
            {"entries": ()}, {"entries": ((0, 0), (1, 0))}, {"exits": ()}, {"exits": ((0, 0),)}, {"period": 11}, {"delay": 8},
        ):
            other = changed(board, **parts)
            for most in (1, 0, None):
                self.assert_error(Unlike, ("boards",), least_line, board, other, most)
                self.assert_error(Unlike, ("boards",), least_line, other, board, most)
                self.assert_error(Unlike, ("boards",), is_told, board, other, most, Strange())
        for parts in ({"entries": ((5, 0),)}, {"exits": ((0, 0), (5, 0))}, {"cells": WIRE + ((9, 9),)}, {"heads": (), "tails": ()}):
            self.assert_told(board, changed(board, **parts), 2)

    def test_wrong_most(self):
        board = Board(*PARTS)
        for most in wrong_counts() + [0]:
            self.assert_error(BadNumber, ("most", most), least_line, board, board, most)
            self.assert_error(BadNumber, ("most", most), is_told, board, board, most, None)


class Judging(Asking):
    """What is told of two boards, and is or is not what [56] describes."""

    def setUp(self):
        self.wire = Board(WIRE, (), (), ((0, 0),), ((7, 0),), 10, 7)
        self.cut = faulty(self.wire, [("out", (4, 0))])
        self.bent = faulty(self.wire, [("in", (4, 9))])

    def test_any_value(self):
        others = [least_line(self.wire, self.cut, 3).lines, ((1,),), SameTo, Differs(None), Never(None), SameTo(None), Strange()]
        for value in strange_values() + others:
            self.assertIs(is_told(self.wire, self.cut, 3, value), False)
            self.assertIs(is_told(self.wire, self.bent, 3, value), False)
        for value in strange_values():
            for make in (Differs, Never, SameTo):
                self.assertIs(is_told(self.wire, self.cut, 3, make(value)), False)
                self.assertIs(is_told(self.wire, self.bent, 3, make(value)), False)
            self.assertIs(is_told(self.wire, self.cut, 3, Differs((value,))), False)
            self.assertIs(is_told(self.wire, self.bent, 3, Never((value,))), False)
            self.assertIs(is_told(self.wire, self.bent, 3, Never(((value, value),))), False)
            self.assertIs(is_told(self.wire, self.bent, 3, Never(((Stand((), ()), value),))), False)

    def test_like_objects(self):
        class LikeDiffers:
            lines = ((1,),)

        class LikeStand:
            heads, tails = (), ()

        self.assertIs(is_told(self.wire, self.cut, 3, LikeDiffers()), False)
        self.assertIs(is_told(self.wire, self.bent, 3, Never(((LikeStand(), LikeStand()),))), False)

    def test_differs(self):
        for lines, wanted in (
            (((1,),), True), ([(1,)], True), (((0,),), False), ((), False), (((1,), (1,)), False), (((0,), (1,)), False),
            (([1],), False), (((True,),), False), (((1, 0),), False), (((),), False), (((2,),), False), (((1.0,),), False),
            ("1", False), ((1,), False),
        ):
            self.assertIs(is_told(self.wire, self.cut, 3, Differs(lines)), wanted)
            self.assertIs(is_told(self.wire, self.bent, 3, Differs(lines)), False)

    def test_differs_in_the_second_period(self):
        text = (2, (0,), (("and", 0, 2),), (1,), (3,))
        board = board_for(Circuit(*text))
        way = [cell for cell in board.cells if cell[1] < -4]
        broken = faulty(board, [("out", way[5])])
        for lines in itertools.product(all_bits(2), repeat=2):
            wanted = lines[0][1] == 1 and lines[1][0] == 1
            self.assertIs(is_told(board, broken, 2, Differs(lines)), wanted)
            self.assertIs(is_told(broken, board, 6, Differs(lines)), wanted)
            self.assertIs(is_told(board, broken, 1, Differs(lines)), False)
            self.assertIs(is_told(board, broken, 6, Differs(lines + ((0, 0),))), False)
        self.assertIs(is_told(board, broken, 1, SameTo(1)), True)
        self.assertIs(is_told(board, broken, 2, SameTo(2)), False)
        self.assertIs(is_told(board, broken, 2, SameTo(1)), False)

    def test_never(self):
        bare, head = Stand((), ()), Stand(((0, 0),), ())
        for pairs, wanted in (
            (((bare, bare),), True), ([(bare, bare)], True), ((), False), (((bare, bare), (bare, bare)), False),
            (((bare, bare), (head, head)), True), (((head, head),), False), (((bare, bare), (head, bare)), False),
            (([bare, bare],), False), (((bare, bare, bare),), False), (((bare,),), False),
            (((bare, bare), (Stand(((4, 9),), ()), bare)), False), (((bare, bare), (bare, Stand(((4, 9),), ()))), True),
            (((bare, bare), (bare, Stand(((8, 8),), ()))), False), (((bare, bare), (Stand(((7, 0),), ((6, 0),)), bare)), True),
            (((bare, bare), (Stand(((7, 0),), ()), bare)), False), (((bare, bare), (Stand(((1, 0),), ((0, 0),)), bare)), False),
        ):
            self.assertIs(is_told(self.wire, self.bent, 3, Never(pairs)), wanted, pairs)
            self.assertIs(is_told(self.wire, self.cut, 3, Never(pairs)), False)

    def test_same_to(self):
        ring = Board(RING, ((0, 1),), ((1, 0),), (), ((3, 1),), 1, 0)
        for most, told in itertools.product(range(1, 11), range(0, 12)):
            # Behind eight periods the pairs are closed, so a Never alone is right.
            self.assertIs(is_told(ring, ring, most, SameTo(told)), most == told and most < 8)
        never = least_line(ring, ring, 8)
        for most in range(1, 12):
            self.assertIs(is_told(ring, ring, most, never), True)
        for most in (True, 1.0, "1", (1,), None):
            self.assertIs(is_told(ring, ring, 1, SameTo(most)), False)
        fewer = Never(never.pairs[:7])
        self.assertIs(is_told(ring, ring, 8, fewer), False)
        for at in range(8):
            self.assertIs(is_told(ring, ring, 8, Never(never.pairs[at:] + never.pairs[:at])), True)

    def test_never_both(self):
        """A Differs and a Never are not both right, whatever most is."""
        chance = random.Random(8)
        for _ in range(60):
            board = random_board(chance)
            if not free_cells(board):
                continue
            other = faulty(board, [("out", chance.choice(free_cells(board)))])
            told = {most: least_line(board, other, most) for most in (1, 2, 3)}
            for value, most in itertools.product(told.values(), told):
                right = is_told(board, other, most, value)
                if isinstance(value, Never):
                    self.assertIs(right, True)
                elif isinstance(value, Differs):
                    self.assertIs(right, len(value.lines) <= most)
                else:
                    self.assertIs(right, value.most == most)

    def test_random_pairs(self):
        chance = random.Random(9)
        found = {True: 0, False: 0}
        for _ in range(150):
            board = random_board(chance)
            told = least_line(board, board, 3)
            if isinstance(told, Never):
                pairs = list(told.pairs)
                if chance.random() < 0.5:
                    del pairs[chance.randrange(len(pairs))]
                if chance.random() < 0.5:
                    pairs.append(chance.choice(told.pairs)[::-1])
                plain = [(pair_of(stand), pair_of(counter)) for stand, counter in pairs]
                wanted = plain_closed(board, board, plain)
                self.assertIs(is_told(board, board, 3, Never(pairs)), wanted)
                found[wanted] += 1
        self.assertGreater(min(found.values()), 10)


class Sizes(Asking):
    def test_boards_of_6000_cells(self):
        chance = random.Random(10)
        asked = 0
        while asked < 6:
            board = board_for(Circuit(*random_plan(chance, 3, chance.randrange(3), 3, 2)))
            if len(board.cells) > 6000:
                continue
            asked += 1
            cell = chance.choice(free_cells(board))
            for fault in (("out", cell), ("in", (cell[0], cell[1] + 2))):
                if fault[0] == "in" and fault[1] in board.cells:
                    continue
                other = faulty(board, [fault])
                told = least_line(board, other, 6)
                self.assertIs(is_told(board, other, 6, told), True)
                if isinstance(told, Differs) and board.delay < board.period:
                    self.assertNotEqual(shown(board, told.lines), shown(other, told.lines))

    def test_long_periods(self):
        wire = tuple((x, 0) for x in range(5990))
        board = Board(wire, (), (), ((0, 0), (1, 0), (3, 0)), ((5989, 0),), 6000, 5989)
        told = least_line(board, faulty(board, [("in", (3000, 5))]), 6)
        self.assertIs(told.__class__, Never)
        told = least_line(board, faulty(board, [("out", (3000, 0))]), 6)
        self.assertEqual(len(told.lines), 1)

    def test_a_board_that_remembers_rows(self):
        """Each row leads to a stand of its own, as the wire is six periods long."""
        wire = tuple((x, 0) for x in range(31))
        board = Board(wire, (), (), ((0, 0),), ((30, 0),), 5, 0)
        self.assertIs(least_line(board, board, 6).__class__, SameTo)
        told = least_line(board, board, 7)
        self.assertIs(told.__class__, Never)
        self.assertIs(is_told(board, board, 6, told), True)
        cut = faulty(board, [("out", (15, 0))])
        self.assertIs(least_line(board, cut, 6).__class__, SameTo)
        self.assertEqual(least_line(board, cut, 7).lines[0], (1,))

    def test_three_entries_and_rows_that_are_remembered(self):
        """Wires of more than six periods: each row of up to six lines leads to a stand of its own."""
        cells = tuple((x, y) for x in range(1900) for y in (0, 4, 8))
        board = Board(cells, (), (), ((0, 0), (0, 4), (0, 8)), ((1899, 4), (59, 8)), 12, 11)
        other = faulty(board, [("in", (900, 40))])
        self.assertIs(least_line(board, other, 5).__class__, SameTo)
        told = least_line(board, faulty(board, [("out", (30, 8))]), 6)
        self.assertEqual((told.__class__, len(told.lines), told.lines[0][2]), (Differs, 5, 1))

    def test_a_wire_full_of_sparks(self):
        """A ring sends a spark down a long wire every eight moments."""
        cells = RING + tuple((x, 0) for x in range(4, 2000))
        board = Board(cells, ((0, 1),), ((1, 0),), (), ((1999, 0),), 1000, 401)
        told = self.assert_quickly_told(board, faulty(board, [("in", (900, 40))]), Never)
        self.assertEqual(len(told.pairs), 3)
        told = self.assert_quickly_told(board, faulty(board, [("out", (1500, 0))]), Differs)
        self.assertEqual(told.lines, ((), (), ()))

    def assert_quickly_told(self, board, other, kind):
        told = least_line(board, other, 6)
        self.assertIs(told.__class__, kind)
        self.assertIs(is_told(board, other, 6, told), True)
        return told
