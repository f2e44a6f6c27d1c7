"""Faults of boards, and the rows that show them."""

from sparkboard.boards import Board, played_on, spots_of
from sparkboard.cells import Stand, is_cell
from sparkboard.circuits import are_closed, first_parting
from sparkboard.errors import BadCell, BadNumber, BadRow, Unlike
from sparkboard.values import all_bits, are_told_bit_rows, is_bits, is_from, is_integer, is_row, kept


class Differs:
    """Lines of bits with which what two boards show differs in the last period."""

    def __init__(self, lines):
        self.lines = kept(lines)


class Never:
    """Pairs of stands of two boards, closed under all bits, that show that they never differ."""

    def __init__(self, pairs):
        self.pairs = kept(pairs)


class SameTo:
    """Two boards show the same for so many periods."""

    def __init__(self, most):
        self.most = kept(most)


def _faulty_cell(board, lot, fault):
    """The cell of a fault; BadCell for a value that is no fault. lot has the cells of the board."""
    if not is_row(fault) or len(fault) != 2:
        raise BadCell(fault)
    what, value = fault
    if not isinstance(what, str) or not is_cell(value):
        raise BadCell(value)
    cell = (value[0], value[1])
    if what == "in" and cell not in lot:
        return cell
    if what == "out" and cell in lot and cell not in board.entries and cell not in board.exits:
        return cell
    raise BadCell(value)


def faulty(board, faults):
    """The Board with the cells of faults put in and taken out."""
    lot = {cell: True for cell in board.cells}
    bent = {}
    for fault in faults:
        cell = _faulty_cell(board, lot, fault)
        if cell in bent:
            raise BadCell(fault[1])
        bent[cell] = True
    cells = [cell for cell in board.cells if cell not in bent]
    cells.extend([cell for cell in bent if cell not in lot])
    return Board(
        cells, [cell for cell in board.heads if cell not in bent], [cell for cell in board.tails if cell not in bent],
        board.entries, board.exits, board.period, board.delay,
    )


class Periods:
    """The periods of a board, many at once: numbers tell for each cell in which cases it is a head, one a bit.

    Stands are told by their marks, as Sparks tells them.
    """

    def __init__(self, board):
        play = played_on(board, ())
        self.sparks = play.sparks
        self.own = play.sparks.mark()
        self.entries = spots_of(play, board.entries)
        self.exits = spots_of(play, board.exits)
        self.period = board.period
        self.delay = board.delay
        self.heads = {}
        self.tails = {}

    def mark_of(self, stand):
        """The mark of a stand; BadCell if a cell of it is none of the board."""
        self.sparks.put(stand)
        return self.sparks.mark()

    def begin(self, marks, lines):
        """Begins with a case for each stand and each line, whose bits light the entries that are bare."""
        heads = {}
        tails = {}
        lit = [0] * len(self.entries)
        for number, mark in enumerate(marks):
            first = number * len(lines)
            cases = ((1 << len(lines)) - 1) << first
            for spot in mark[0]:
                heads[spot] = heads.get(spot, 0) | cases
            for spot in mark[1]:
                tails[spot] = tails.get(spot, 0) | cases
            for case, bits in enumerate(lines, start=first):
                lit = [known | (bit << case) for known, bit in zip(lit, bits)]
        for spot, cases in zip(self.entries, lit):
            bare = cases & ~tails.get(spot, 0)
            if bare != 0:
                heads[spot] = heads.get(spot, 0) | bare
        self.heads = heads
        self.tails = tails

    def go(self):
        """One step of the one rule in all cases."""
        heads = self.heads
        near = self.sparks.near
        lit = {}
        twice = {}
        crowded = {}
        for head, cases in heads.items():
            if near[head] is None:
                self.sparks.look_around(head)
            for spot in near[head]:
                again = lit.get(spot, 0) & cases
                lit[spot] = lit.get(spot, 0) | cases
                if again != 0:
                    crowded[spot] = crowded.get(spot, 0) | (twice.get(spot, 0) & again)
                    twice[spot] = twice.get(spot, 0) | again
        tails = self.tails
        self.heads = {}
        self.tails = heads
        for spot, cases in lit.items():
            bare = cases & ~(heads.get(spot, 0) | tails.get(spot, 0) | crowded.get(spot, 0))
            if bare != 0:
                self.heads[spot] = bare

    def go_on(self, steps):
        """So many steps; none where all is bare."""
        for _ in range(steps):
            if len(self.heads) == 0 and len(self.tails) == 0:
                break
            self.go()

    def shown(self, many):
        """For each of so many cases a bit for each exit: whether it is a head."""
        exits = [self.heads.get(spot, 0) for spot in self.exits]
        return [tuple([cases >> case & 1 for cases in exits]) for case in range(many)]

    def marks(self, many):
        """For each of so many cases the mark of its stand."""
        heads = _spots_by_case(self.heads, many)
        tails = _spots_by_case(self.tails, many)
        return list(zip(heads, tails))

    def all_behind(self, marks, lines):
        """For each stand and each line what a period shows, and the stand behind it."""
        many = len(marks) * len(lines)
        self.begin(marks, lines)
        # The exits may be looked at behind the end of the period.
        self.go_on(min(self.delay, self.period))
        shown = self.shown(many)
        if self.delay > self.period:
            behind = self.marks(many)
            self.go_on(self.delay - self.period)
            shown = self.shown(many)
        else:
            self.go_on(self.period - self.delay)
            behind = self.marks(many)
        return list(zip(shown, behind))


def _spots_by_case(lit, many):
    """For each of so many cases its spots, ascending; lit tells for spots their cases."""
    spots = [[] for _ in range(many)]
    for spot in sorted(list(lit)):
        cases = lit[spot]
        while cases != 0:
            lowest = cases & -cases
            spots[lowest.bit_length() - 1].append(spot)
            cases = cases ^ lowest
    return [tuple(row) for row in spots]


def period_behind(board, stand, bits):
    """The Stand one period later, and what the exits show."""
    if not isinstance(stand, Stand):
        raise BadRow(stand)
    periods = Periods(board)
    try:
        mark = periods.mark_of(stand)
    except BadCell:
        raise BadRow(stand) from None
    if not is_bits(bits, len(board.entries)):
        raise BadRow(bits)
    shown, behind = periods.all_behind([mark], [bits])[0]
    return periods.sparks.stand_of(behind), shown


def _check_boards(one, other, most):
    if len(one.entries) != len(other.entries) or len(one.exits) != len(other.exits):
        raise Unlike("boards")
    if one.period != other.period or one.delay != other.delay:
        raise Unlike("boards")
    if not is_from(most, 1):
        raise BadNumber("most", most)


def _sides(one, other):
    """The Periods of two boards, and the pair of the marks of their own stands."""
    ones = Periods(one)
    others = Periods(other)
    return ones, others, (ones.own, others.own)


def least_line(one, other, most):
    """The Differs, the Never or the SameTo of two boards."""
    _check_boards(one, other, most)
    ones, others, first = _sides(one, other)
    lines, pairs, are_all = first_parting(ones, others, first, all_bits(len(one.entries)), most)
    if lines is not None:
        return Differs(lines)
    if not are_all:
        return SameTo(most)
    return Never([(ones.sparks.stand_of(mark), others.sparks.stand_of(counter)) for mark, counter in pairs])


def _last_shown(periods, lines):
    """What a board shows in the last one of so many periods."""
    mark = periods.own
    shown = ()
    for bits in lines:
        shown, mark = periods.all_behind([mark], [bits])[0]
    return shown


def _differ(one, other, most, lines):
    """Whether a value is what a Differs of two boards keeps."""
    if not are_told_bit_rows(lines, len(one.entries)) or not 1 <= len(lines) <= most:
        return False
    if _last_shown(Periods(one), lines) == _last_shown(Periods(other), lines):
        return False
    # With the least number of lines nothing differs ahead of the last period.
    found = least_line(one, other, most)
    return isinstance(found, Differs) and len(found.lines) == len(lines)


def _mark_if_any(periods, stand):
    """The mark of a value that is a stand of the board, None for any other one."""
    if not isinstance(stand, Stand):
        return None
    try:
        return periods.mark_of(stand)
    except BadCell:
        return None


def _never_differ(one, other, pairs):
    """Whether a value is what a Never of two boards keeps."""
    if not isinstance(pairs, tuple) or not all([isinstance(pair, tuple) and len(pair) == 2 for pair in pairs]):
        return False
    ones, others, first = _sides(one, other)
    marks = [(_mark_if_any(ones, stand), _mark_if_any(others, other_stand)) for stand, other_stand in pairs]
    if any([None in pair for pair in marks]):
        return False
    return are_closed(ones, others, first, all_bits(len(one.entries)), marks)


def is_told(one, other, most, told):
    """Whether a value is a Differs, a Never or a SameTo of two boards, as least_line describes them."""
    _check_boards(one, other, most)
    if isinstance(told, Differs):
        return _differ(one, other, most, told.lines)
    if isinstance(told, Never):
        return _never_differ(one, other, told.pairs)
    if isinstance(told, SameTo):
        return is_integer(told.most) and told.most == most and isinstance(least_line(one, other, most), SameTo)
    return False
