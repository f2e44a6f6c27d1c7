"""Programs read back from boards."""

from sparkboard.boards import TOP, Board
from sparkboard.cells import checked_cells, neighbours
from sparkboard.errors import SparkError
from sparkboard.judge import is_board
from sparkboard.placing import port, register_rows
from sparkboard.programs import Program
from sparkboard.tiles import KINDS, PITCH, WIDTH, rows_of, tile_cells
from sparkboard.values import kept


class Read:
    """A lean program that the judge takes for a board."""

    def __init__(self, program):
        self.program = kept(program)


class NotOurs:
    """What is no board of a program; cell is the least one of a piece that is no tile, or None."""

    def __init__(self, cell):
        self.cell = kept(cell)


def lean(program):
    """The program without rows behind the last one that bears something, its registers in the order of their rows."""
    loops = sorted(zip(program.registers, program.nexts))
    rows = [row for stage in program.stages for tile in stage for row in rows_of(tile)]
    rows.extend(program.inputs + register_rows(program) + program.nexts + program.outs)
    return Program(
        max([0] + rows) + 1, program.inputs, [pair for pair, _ in loops], program.stages,
        [behind for _, behind in loops], program.outs,
    )


def _windows(cells):
    """The cells of each window in which there are some, by its stage."""
    windows = {}
    for cell in cells:
        if cell[1] >= TOP:
            windows.setdefault(cell[0] // WIDTH, []).append(cell)
    return windows


def _piece(start, left):
    """All that hangs together with a cell, ascending; it is taken out of what is left."""
    piece = [start]
    del left[start]
    at = 0
    while at < len(piece):
        cell = piece[at]
        for near in neighbours(cell):
            if near in left:
                del left[near]
                piece.append(near)
        at += 1
    return tuple(sorted(piece))


def _pieces(window):
    """The pieces of the ascending cells of a window, ascending."""
    left = {cell: True for cell in window}
    return tuple([_piece(cell, left) for cell in window if cell in left])


def pieces_of(cells, s):
    """The pieces of the window of stage s, ascending."""
    return _pieces(_windows(checked_cells(cells)).get(s, []))


def tile_of(piece, s):
    """The tile whose cells at stage s are just those of a piece, None if there is none."""
    cells = [(x - s * WIDTH, y) for x, y in piece]
    for kind in KINDS:
        shape = tile_cells(kind)
        if len(cells) != len(shape):
            continue
        down = cells[0][1] - shape[0][1]
        if down >= 0 and down % PITCH == 0 and cells == [(x, y + down) for x, y in shape]:
            return kind, down // PITCH + (1 if kind == "up" else 0)
    return None


def _is_lone_port(piece, s):
    return len(piece) == 1 and piece[0] == port(s, piece[0][1] // PITCH)


def _stage_of(pieces, s):
    """The tiles of pieces, or NotOurs."""
    tiles = []
    for piece in pieces:
        if _is_lone_port(piece, s):
            continue
        tile = tile_of(piece, s)
        if tile is None:
            return NotOurs(piece[0])
        tiles.append((rows_of(tile), tile))
    return tuple([tile for _, tile in sorted(tiles)])


def read_stage(cells, s):
    """The tiles of all pieces of a window but lone ports, or NotOurs."""
    return _stage_of(pieces_of(cells, s), s)


def _program_on(board, stages):
    """The program of these stages that a board has if it has one; a SparkError if there is no such program."""
    last = len(stages)
    lot = {cell: True for cell in board.cells}
    rows = range(max([0] + [y for _, y in board.cells]) // PITCH + 1)
    registers = []
    nexts = []
    for row in rows:
        x, y = port(0, row)
        if (x, y) in lot and (x - 1, y) in lot:
            registers.append((row, 1 if (x, y) in board.heads else 0))
        if port(last, row) in lot and port(last, row) not in board.exits:
            nexts.append(row)
    inputs = [y // PITCH for _, y in board.entries]
    outs = [y // PITCH for _, y in board.exits]
    return lean(Program(len(rows), inputs, registers, stages, nexts, outs))


def _stages_on(board):
    """The stages that a board shows, as many as its delay tells, or NotOurs."""
    windows = _windows(board.cells)
    stages = []
    for s in range(board.delay // WIDTH):
        told = _stage_of(_pieces(windows.get(s, [])), s)
        if isinstance(told, NotOurs):
            return told
        stages.append(told)
    return tuple(stages)


def read_board(board):
    """The Read of a board, NotOurs if it is the board of no program."""
    stages = _stages_on(board)
    if isinstance(stages, NotOurs):
        return stages
    try:
        program = _program_on(board, stages)
    except SparkError:
        return NotOurs(None)
    return Read(program) if is_board(program, board) else NotOurs(None)


def is_read(board, told):
    """Whether a value is what read_board may tell of a board."""
    if isinstance(told, Read):
        program = told.program
        return isinstance(program, Program) and lean(program) == program and is_board(program, board)
    return isinstance(told, NotOurs) and isinstance(read_board(board), NotOurs)
