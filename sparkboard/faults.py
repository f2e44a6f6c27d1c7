"""Faults of boards, and the rows that show them."""

from sparkboard.boards import Board, played_on, spots_of
from sparkboard.cells import Stand, is_cell
from sparkboard.circuits import are_closed, first_parting
from sparkboard.errors import BadCell, BadNumber, BadRow, Unlike
from sparkboard.values import all_bits, are_told_bit_rows, is_bits, is_from, is_integer, is_row, kept


class Differs:
    """Lines of bits with which what two boards show differs in the last period."""

    def __init__(self, lines):
        self.lines = kept(lines)


class Never:
    """Pairs of stands of two boards, closed under all bits, that show that they never differ."""

    def __init__(self, pairs):
        self.pairs = kept(pairs)


class SameTo:
    """Two boards show the same for so many periods."""

    def __init__(self, most):
        self.most = kept(most)


def _faulty_cell(board, lot, fault):
    """The cell of a fault; BadCell for a value that is no fault. lot has the cells of the board."""
    if not is_row(fault) or len(fault) != 2:
        raise BadCell(fault)
    what, value = fault
    if not isinstance(what, str) or not is_cell(value):
        raise BadCell(value)
    cell = (value[0], value[1])
    if what == "in" and cell not in lot:
        return cell
    if what == "out" and cell in lot and cell not in board.entries and cell not in board.exits:
        return cell
    raise BadCell(value)


def faulty(board, faults):
    """The Board with the cells of faults put in and taken out."""
    lot = {cell: True for cell in board.cells}
    bent = {}
    for fault in faults:
        cell = _faulty_cell(board, lot, fault)
        if cell in bent:
            raise BadCell(fault[1])
        bent[cell] = True
    cells = [cell for cell in board.cells if cell not in bent]
    cells.extend([cell for cell in bent if cell not in lot])
    return Board(
        cells, [cell for cell in board.heads if cell not in bent], [cell for cell in board.tails if cell not in bent],
        board.entries, board.exits, board.period, board.delay,
    )


class Periods:
    """The periods of a board; each is run once, from a stand as Sparks marks it."""

    def __init__(self, board):
        self.play = played_on(board, ())
        self.own = self.play.sparks.mark()
        self.delay = board.delay
        self.exits = spots_of(self.play, board.exits)
        self.known = {}

    def mark_of(self, stand):
        """The mark of a stand; BadCell if a cell of it is none of the board."""
        self.play.sparks.put(stand)
        return self.play.sparks.mark()

    def stand_of(self, mark):
        """The Stand of a mark."""
        return self.play.sparks.stand_of(mark)

    def behind(self, mark, bits):
        """What a period shows from a stand on, and the stand behind it."""
        if (mark, bits) not in self.known:
            self.known[(mark, bits)] = self.run_through(mark, bits)
        return self.known[(mark, bits)]

    def run_through(self, mark, bits):
        """Runs a period, and further if the exits are looked at later than at its end."""
        play = self.play
        play.sparks.put_back(mark)
        play.begin((bits,))
        if self.delay > play.period:
            play.go_to(play.period)
            behind = play.sparks.mark()
            play.go_to(self.delay)
            return play.shown(self.exits), behind
        play.go_to(self.delay)
        shown = play.shown(self.exits)
        play.go_to(play.period)
        return shown, play.sparks.mark()


def period_behind(board, stand, bits):
    """The Stand one period later, and what the exits show."""
    if not isinstance(stand, Stand):
        raise BadRow(stand)
    periods = Periods(board)
    try:
        mark = periods.mark_of(stand)
    except BadCell:
        raise BadRow(stand) from None
    if not is_bits(bits, len(board.entries)):
        raise BadRow(bits)
    shown, behind = periods.behind(mark, tuple(bits))
    return periods.stand_of(behind), shown


def _check_boards(one, other, most):
    if len(one.entries) != len(other.entries) or len(one.exits) != len(other.exits):
        raise Unlike("boards")
    if one.period != other.period or one.delay != other.delay:
        raise Unlike("boards")
    if not is_from(most, 1):
        raise BadNumber("most", most)


def _sides(one, other):
    """The Periods of two boards, and the pair of the marks of their own stands."""
    ones = Periods(one)
    others = Periods(other)
    return ones, others, (ones.own, others.own)


def least_line(one, other, most):
    """The Differs, the Never or the SameTo of two boards."""
    _check_boards(one, other, most)
    ones, others, first = _sides(one, other)
    lines, pairs, are_all = first_parting(ones, others, first, all_bits(len(one.entries)), most)
    if lines is not None:
        return Differs(lines)
    if not are_all:
        return SameTo(most)
    return Never([(ones.stand_of(mark), others.stand_of(other_mark)) for mark, other_mark in pairs])


def _last_shown(periods, lines):
    """What a board shows in the last one of so many periods."""
    mark = periods.own
    shown = ()
    for bits in lines:
        shown, mark = periods.behind(mark, bits)
    return shown


def _differ(one, other, most, lines):
    """Whether a value is what a Differs of two boards keeps."""
    if not are_told_bit_rows(lines, len(one.entries)) or not 1 <= len(lines) <= most:
        return False
    if _last_shown(Periods(one), lines) == _last_shown(Periods(other), lines):
        return False
    # With the least number of lines nothing differs ahead of the last period.
    found = least_line(one, other, most)
    return isinstance(found, Differs) and len(found.lines) == len(lines)


def _mark_if_any(periods, stand):
    """The mark of a value that is a stand of the board, None for any other one."""
    if not isinstance(stand, Stand):
        return None
    try:
        return periods.mark_of(stand)
    except BadCell:
        return None


def _never_differ(one, other, pairs):
    """Whether a value is what a Never of two boards keeps."""
    if not isinstance(pairs, tuple) or not all([isinstance(pair, tuple) and len(pair) == 2 for pair in pairs]):
        return False
    ones, others, first = _sides(one, other)
    marks = [(_mark_if_any(ones, stand), _mark_if_any(others, other_stand)) for stand, other_stand in pairs]
    if any([None in pair for pair in marks]):
        return False
    return are_closed(ones, others, first, all_bits(len(one.entries)), marks)


def is_told(one, other, most, told):
    """Whether a value is a Differs, a Never or a SameTo of two boards, as least_line describes them."""
    _check_boards(one, other, most)
    if isinstance(told, Differs):
        return _differ(one, other, most, told.lines)
    if isinstance(told, Never):
        return _never_differ(one, other, told.pairs)
    if isinstance(told, SameTo):
        return is_integer(told.most) and told.most == most and isinstance(least_line(one, other, most), SameTo)
    return False
