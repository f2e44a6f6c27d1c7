"""Boards of programs and circuits, and what their exits show."""

from sparkboard.cells import Play, Stand, cells_of, checked_cells
from sparkboard.errors import BadNumber, BadRow
from sparkboard.making import program_of
from sparkboard.paths import period_of, ways
from sparkboard.placing import laid, ports, register_rows
from sparkboard.tiles import GAP, PITCH, WIDTH
from sparkboard.values import is_bit_rows, is_from

# The least y of the field of a board.
TOP = -4


def _checked_among(value, lot):
    """The cells of a row, in its order; BadRow for what is no row of unlike cells of the lot."""
    row = cells_of(value)
    if row is None or not all([cell in lot for cell in row]):
        raise BadRow(value)
    return tuple([(x, y) for x, y in value])


class Board:
    """Cells on which sparks run, with entries for rows of bits and exits that show others."""

    def __init__(self, cells, heads, tails, entries, exits, period, delay):
        self.cells = checked_cells(cells)
        lot = {cell: True for cell in self.cells}
        self.heads = tuple(sorted(_checked_among(heads, lot)))
        self.tails = tuple(sorted(_checked_among(tails, lot)))
        lit = {cell: True for cell in self.heads}
        if any([cell in lit for cell in self.tails]):
            raise BadRow(tails)
        self.entries = _checked_among(entries, lot)
        self.exits = _checked_among(exits, lot)
        if not is_from(period, 1):
            raise BadNumber("period", period)
        if not is_from(delay, 0):
            raise BadNumber("delay", delay)
        self.period = period
        self.delay = delay

    def __eq__(self, other):
        return (
            isinstance(other, Board) and self.cells == other.cells and self.heads == other.heads
            and self.tails == other.tails and self.entries == other.entries and self.exits == other.exits
            and self.period == other.period and self.delay == other.delay
        )


def width_of(program):
    """The x of the last border of a program."""
    return WIDTH * len(program.stages)


def gates_of(program):
    """The entries and the exits of the boards of a program."""
    return tuple(ports(0, program.inputs)), tuple(ports(len(program.stages), program.outs))


def resets_of(program):
    """The heads and the tails of the boards of a program."""
    heads = sorted(ports(0, [row for row, reset in program.registers if reset == 1]))
    return tuple(heads), tuple([(x - 1, y) for x, y in heads])


def board_of(program):
    """The Board of a program with a stage at least."""
    width = width_of(program)
    loops = sorted(zip(register_rows(program), program.nexts))
    starts = [PITCH * row for _, row in loops]
    if starts != sorted(starts):
        raise BadRow(program.nexts)
    told = ways(width, TOP, starts, [PITCH * row for row, _ in loops], max(0, GAP - width))
    period = period_of(width, told) if loops else max(width, GAP)
    found = {cell: True for path in told.paths for cell in path}
    for cell in laid(program):
        found[cell] = True
    entries, exits = gates_of(program)
    heads, tails = resets_of(program)
    return Board(list(found), heads, tails, entries, exits, period, width)


def board_for(circuit):
    """The Board of a circuit."""
    return board_of(program_of(circuit))


def check_rows(board, rows):
    """BadRow for what is no row of rows of bits, one for each entry of a board."""
    if not is_bit_rows(rows, len(board.entries)):
        raise BadRow(rows)


def played_on(board, rows):
    """The Play of a board that begins at the moment 0."""
    play = Play(board.cells, board.entries, board.period)
    play.sparks.put(Stand(board.heads, board.tails))
    play.begin(rows)
    return play


def spots_of(play, cells):
    """The numbers that a play has for cells."""
    return [play.sparks.spot_of(cell) for cell in cells]


def shown(board, rows):
    """For each row of inputs the bits that the exits show, delay moments behind it."""
    check_rows(board, rows)
    play = played_on(board, rows)
    exits = spots_of(play, board.exits)
    told = []
    for number in range(len(rows)):
        play.go_to(number * board.period + board.delay)
        told.append(play.shown(exits))
    return tuple(told)


def exit_heads(board, rows, moments):
    """All pairs of a moment below moments and the number of an exit that is a head then."""
    check_rows(board, rows)
    if not is_from(moments, 0):
        raise BadNumber("moments", moments)
    play = played_on(board, rows)
    exits = spots_of(play, board.exits)
    told = []
    while play.moment < moments:
        heads = play.sparks.heads
        told.extend([(play.moment, number) for number, spot in enumerate(exits) if spot in heads])
        play.go_on(moments)
    return tuple(told)
