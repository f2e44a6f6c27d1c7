"""The judge: which boards are boards of a program, by looking at cells alone."""

from sparkboard.boards import TOP, Board, gates_of, resets_of, width_of
from sparkboard.cells import neighbours
from sparkboard.paths import is_path
from sparkboard.placing import laid, port, register_rows
from sparkboard.tiles import GAP


def _is_in_field(cell, width):
    return 0 <= cell[0] <= width and cell[1] >= TOP


def _near(cell, lot):
    return [near for near in neighbours(cell) if near in lot]


def _way(lot, width, start, end):
    """The way among a lot of cells that leads from one port on the right to another one on the left, or None."""
    ahead = (start[0] + 1, start[1])
    if start not in lot or ahead not in lot:
        return None
    way = [start, ahead]
    taken = {start: True, ahead: True}
    while way[-1] != end:
        free = [near for near in _near(way[-1], lot) if near not in taken]
        if len(free) != 1 or (_is_in_field(free[0], width) and free[0] != end):
            return None
        way.append(free[0])
        taken[free[0]] = True
    if way[-2] != (end[0] - 1, end[1]) or not is_path(tuple(way)):
        return None
    return tuple(way)


def _ways_among(program, lot):
    last = len(program.stages)
    return tuple([
        _way(lot, width_of(program), port(last, behind), port(0, row))
        for row, behind in zip(register_rows(program), program.nexts)
    ])


def ways_on(program, board):
    """For each register its way on a board, None where there is none."""
    return _ways_among(program, {cell: True for cell in board.cells})


def _has_gates(program, board):
    return board.delay == width_of(program) and (board.entries, board.exits) == gates_of(program)


def _has_field(program, board):
    width = width_of(program)
    return tuple([cell for cell in board.cells if _is_in_field(cell, width)]) == laid(program)


def _has_ways(program, board, lot, found):
    """Whether the ways that were found are all there is out of the field, and touch nothing else."""
    if None in found:
        return False
    inner = {}
    for way in found:
        for cell in way[1:-1]:
            if len(_near(cell, lot)) != 2:
                return False
            inner[cell] = True
    width = width_of(program)
    return all([cell in inner or _is_in_field(cell, width) for cell in board.cells])


def _has_period(program, board, found):
    width = width_of(program)
    if board.period < max(GAP, width):
        return False
    return all([board.period == width + len(way) - 1 for way in found])


def first_wrong(program, board):
    """The number, from 1 to 5, of what is not as on a board of a program; None for a board of it."""
    if not _has_gates(program, board):
        return 1
    if not _has_field(program, board):
        return 2
    lot = {cell: True for cell in board.cells}
    found = _ways_among(program, lot)
    if not _has_ways(program, board, lot, found):
        return 3
    if not _has_period(program, board, found):
        return 4
    if (board.heads, board.tails) != resets_of(program):
        return 5
    return None


def is_board(program, board):
    """Whether a value is a board of a program."""
    return len(program.stages) > 0 and isinstance(board, Board) and first_wrong(program, board) is None
