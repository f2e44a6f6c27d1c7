"""What the document says of placed programs, paths, boards and readings, in the plainest way; and inputs for tests."""

import itertools
import random

from tests.plain import plain_neighbours
from tests.plain_tiles import (
    KINDS, OUTS, SHAPES, cells_of_words, plain_borders, plain_rows_of, plain_top, random_parts,
)

SHAPE_CELLS = {kind: cells_of_words(SHAPES[kind]) for kind in KINDS}


# Sparks by the one rule; only cells next to heads can become heads.

class Near(dict):
    """For each cell of a lot its neighbours in the lot, looked for once."""

    def __init__(self, cells):
        super().__init__()
        self.cells = set(cells)

    def __missing__(self, cell):
        self[cell] = [other for other in plain_neighbours(cell) if other in self.cells]
        return self[cell]


def plain_go(near, heads, tails):
    """The heads and tails one moment later, as sets."""
    lit = set()
    for cell in {cell for head in heads for cell in near[head]}:
        if cell not in heads and cell not in tails and sum(other in heads for other in near[cell]) in (1, 2):
            lit.add(cell)
    return lit, set(heads)


def plain_moments(board, rows, last, stand=None):
    """The stands (heads, tails), as sets, at the moments from 0 to last, of a board that is played with rows."""
    near = Near(board.cells)
    heads, tails = stand if stand else (board.heads, board.tails)
    heads, tails = set(heads), set(tails)
    stands = []
    for moment in range(last + 1):
        if moment:
            heads, tails = plain_go(near, heads, tails)
        if moment % board.period == 0 and moment // board.period < len(rows):
            row = rows[moment // board.period]
            heads = heads | {cell for cell, bit in zip(board.entries, row) if bit and cell not in tails}
        stands.append((heads, tails))
    return stands


def plain_shown(board, rows):
    if not rows:
        return ()
    stands = plain_moments(board, rows, (len(rows) - 1) * board.period + board.delay)
    return tuple(
        tuple(1 if cell in stands[number * board.period + board.delay][0] else 0 for cell in board.exits)
        for number in range(len(rows))
    )


def plain_exit_heads(board, rows, moments):
    stands = plain_moments(board, rows, moments)[:moments]
    return tuple(
        (moment, number) for moment, (heads, _) in enumerate(stands)
        for number, cell in enumerate(board.exits) if cell in heads
    )


def plain_period(board, heads, tails, bits):
    """[55]: the heads and tails behind a period, ascending, and what is shown."""
    stands = plain_moments(board, (bits,), max(board.period, board.delay), (heads, tails))
    heads, tails = stands[board.period]
    shown = tuple(1 if cell in stands[board.delay][0] else 0 for cell in board.exits)
    return (tuple(sorted(heads)), tuple(sorted(tails))), shown


# Placed programs, as parts (rows, inputs, registers, stages, nexts, outs).

def plain_ahead(parts):
    return tuple(sorted(parts[1] + tuple(row for row, _ in parts[2])))


def plain_live(parts, s):
    if s == 0:
        return plain_ahead(parts)
    return tuple(sorted(plain_top(tile) + out for tile in parts[3][s - 1] for out in OUTS[tile[0]]))


def plain_laid(parts):
    """All cells of the tiles of a program, and the ports of its first and last border."""
    last = 20 * len(parts[3])
    cells = {(0, 8 * row) for row in plain_ahead(parts)} | {(last, 8 * row) for row in parts[4] + parts[5]}
    for s, stage in enumerate(parts[3]):
        for tile in stage:
            cells |= {(x + 20 * s, y + 8 * plain_top(tile)) for x, y in SHAPE_CELLS[tile[0]]}
    return tuple(sorted(cells))


def plain_live_bits(parts, bits):
    """For each border the bits of its live rows, from those of border 0."""
    ahead = [0] * parts[0]
    for row, bit in zip(plain_live(parts, 0), bits):
        ahead[row] = bit
    told = plain_borders(parts[3], ahead)
    return [tuple(told[s][row] for row in plain_live(parts, s)) for s in range(len(parts[3]) + 1)]


def some_parts(seed, many, rows=5, stages=4, least=0):
    """The parts of random programs, of least stages at least."""
    chance = random.Random(seed)
    return [random_parts(chance, chance.randrange(1, rows + 1), chance.randrange(least, stages + 1)) for _ in range(many)]


def untangled(parts):
    """The parts with the nexts exchanged, so that they ascend with the rows of their registers."""
    rows, inputs, registers, stages, nexts, outs = parts
    order = sorted(range(len(registers)), key=lambda k: registers[k])
    behind = dict(zip(order, sorted(nexts)))
    return rows, inputs, registers, stages, tuple(behind[k] for k in range(len(nexts))), outs


def some_board_parts(seed, many, rows=5, stages=4):
    """The parts of random programs that board_of takes."""
    return [untangled(parts) for parts in some_parts(seed, many, rows, stages, 1)]


# Paths and ways.

def plain_is_path(cells):
    """[38], for a tuple of cells."""
    if not cells or len(set(cells)) != len(cells):
        return False
    number = {cell: at for at, cell in enumerate(cells)}
    for at, cell in enumerate(cells):
        near = sorted(number[other] for other in plain_neighbours(cell) if other in number)
        if near != [other for other in (at - 1, at + 1) if 0 <= other < len(cells)]:
            return False
    return True


def plain_fits(width, top, starts, ends, steps, paths):
    """[40]: whether paths of so many steps fit."""
    if len(paths) != len(starts):
        return False
    taken = {}
    for number, (path, start, end) in enumerate(zip(paths, starts, ends)):
        if not plain_is_path(path) or len(path) != steps + 1 or len(path) < 4:
            return False
        if path[0] != (width, start) or path[1] != (width + 1, start) or path[-2] != (-1, end) or path[-1] != (0, end):
            return False
        for x, y in path[2:-2]:
            # The field goes from (0, top) to (width, top), and downwards without an end.
            if max(-x, x - width, top - y) < 2:
                return False
        for cell in path:
            if any(taken.get(other, number) != number for other in [cell] + plain_neighbours(cell)):
                return False
        taken.update((cell, number) for cell in path)
    return True


def bump(x, height, u, v):
    """[39]: the cells of a bump behind (x, 0), with u steps aslant upwards and v downwards."""
    steps = [(1, -1)] + [(0, -1)] * (height - u) + [(1, -1)] * (u - 1)
    steps += [(1, 1)] * (v - 1) + [(0, 1)] * (height - v) + [(1, 1)]
    cells = [(x, 0)]
    for dx, dy in steps:
        cells.append((cells[-1][0] + dx, cells[-1][1] + dy))
    return cells[1:]


def bumpy(width, extra):
    """A path from (0, 0) to (width, 0) with bumps of the height 6, steeper and flatter ones; None without room for it."""
    cells = [(0, 0), (1, 0), (2, 0)]
    while extra > 6:
        cells += bump(cells[-1][0], 6, 3, 3)
        extra -= 6
    if extra:
        u = max(2, 6 - extra)
        cells += bump(cells[-1][0], 6, u, 12 - u - extra)
    if cells[-1][0] >= width:
        return None
    return cells + [(x, 0) for x in range(cells[-1][0] + 1, width + 1)]


def other_ways(width, top, starts, ends, out=0, more=0):
    """Ways that fit, other ones than the program tells: (steps, paths). Lanes are four columns and nine lines apart."""
    lanes = [(5 + out + 4 * k, top - 3 - 9 * k, start, end) for k, (start, end) in enumerate(zip(starts, ends))]
    lengths = [width + 4 * far + start + end - 2 * line - 4 for far, line, start, end in lanes]
    steps = max(lengths) + more
    paths = []
    for (far, line, start, end), length in zip(lanes, lengths):
        over = bumpy(width + 2 * far - 2, steps - length)
        if over is None:
            return other_ways(width, top, starts, ends, out + 9, more)
        path = [(x, start) for x in range(width, width + far)] + [(width + far, y) for y in range(start - 1, line, -1)]
        path += [(width + far - 1 - x, line + y) for x, y in over]
        path += [(-far, y) for y in range(line + 1, end)] + [(x, end) for x in range(1 - far, 1)]
        paths.append(tuple(path))
    return steps, tuple(paths)


# The judge.

def plain_gates(parts):
    last = 20 * len(parts[3])
    return tuple((0, 8 * row) for row in parts[1]), tuple((last, 8 * row) for row in parts[5])


def plain_resets(parts):
    rows = sorted(row for row, reset in parts[2] if reset)
    return tuple((0, 8 * row) for row in rows), tuple((-1, 8 * row) for row in rows)


def plain_way(parts, board, number):
    """The way of a register, as it must be by 3. of [48]: all that hangs together out of the field, in its order."""
    last = 20 * len(parts[3])
    start, end = (last, 8 * parts[4][number]), (0, 8 * parts[2][number][0])
    lot = set(board.cells)
    out = {cell for cell in lot if not (0 <= cell[0] <= last and cell[1] >= -4)}
    if not {start, end} <= lot or (start[0] + 1, start[1]) not in out:
        return None
    way, further = [start], (start[0] + 1, start[1])
    while further is not None:
        way.append(further)
        others = [cell for cell in plain_neighbours(further) if cell in out and cell not in way[-3:]]
        if len(others) > 1 or len(way) > len(out) + 1:
            return None
        further = others[0] if others else None
    way.append(end)
    if way[-2] != (-1, end[1]) or not plain_is_path(tuple(way)):
        return None
    if any(len([near for near in plain_neighbours(cell) if near in lot]) != 2 for cell in way[1:-1]):
        return None
    return way


def plain_first_wrong(parts, board):
    """[48], word by word, for a program with a stage at least."""
    last = 20 * len(parts[3])
    if board.delay != last or (board.entries, board.exits) != plain_gates(parts):
        return 1
    field = {(x, y) for x, y in board.cells if 0 <= x <= last and y >= -4}
    if field != set(plain_laid(parts)):
        return 2
    ways = [plain_way(parts, board, number) for number in range(len(parts[2]))]
    if None in ways:
        return 3
    if set(board.cells) - field != {cell for way in ways for cell in way[1:-1]}:
        return 3
    if board.period < max(24, last) or any(board.period != last + len(way) - 1 for way in ways):
        return 4
    if (board.heads, board.tails) != plain_resets(parts):
        return 5
    return None


# Readings.

def plain_lean(parts):
    rows, inputs, registers, stages, nexts, outs = parts
    used = [row for stage in stages for tile in stage for row in plain_rows_of(tile)]
    used += list(inputs) + [row for row, _ in registers] + list(nexts) + list(outs)
    loops = sorted(zip(registers, nexts))
    return (
        max(used) + 1 if used else 1, inputs, tuple(pair for pair, _ in loops), stages,
        tuple(behind for _, behind in loops), outs,
    )


def plain_pieces(cells, s):
    """The pieces of a window: cells are put into one lot as long as two lots have neighbours."""
    lots = [{cell} for cell in cells if 20 * s <= cell[0] < 20 * s + 20 and cell[1] >= -4]
    going = True
    while going:
        going = False
        for one, other in itertools.combinations(lots, 2):
            if any(near in other for cell in one for near in plain_neighbours(cell)):
                lots.remove(one)
                lots.remove(other)
                lots.append(one | other)
                going = True
                break
    return tuple(sorted(tuple(sorted(lot)) for lot in lots))


ALL_TILES = {
    frozenset((x, y + 8 * row) for x, y in SHAPE_CELLS[kind]): (kind, row + 1 if kind == "up" else row)
    for kind, row in itertools.product(KINDS, range(60))
}


def plain_tile(piece, s):
    """The tile with just these cells, among those of the rows below 60."""
    return ALL_TILES.get(frozenset((x - 20 * s, y) for x, y in piece))


def plain_read_stage(cells, s):
    """The tiles of a window, or the least cell of the first piece that is neither a tile nor a lone port."""
    tiles = []
    for piece in plain_pieces(cells, s):
        tile = plain_tile(piece, s)
        if tile is not None:
            tiles.append(tile)
        elif len(piece) > 1 or piece[0] not in {(20 * s, 8 * row) for row in range(60)}:
            return piece[0]
    return tuple(sorted(tiles, key=lambda tile: min(plain_rows_of(tile))))
