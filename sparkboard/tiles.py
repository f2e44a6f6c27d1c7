"""Tiles: shapes of cells that answer the sparks in their in ports with a told word in their out ports."""

from sparkboard.cells import Sparks, are_told_cells
from sparkboard.errors import BadName, BadRow
from sparkboard.values import all_bits, is_bits

WIDTH = 20
PITCH = 8
GAP = 24
KINDS = ("wire", "up", "down", "copy", "or", "xor", "but")
INS = {"wire": (0,), "up": (1,), "down": (0,), "copy": (0,), "or": (0, 1), "xor": (0, 1), "but": (0, 1)}
OUTS = {"wire": (0,), "up": (0,), "down": (1,), "copy": (0, 1), "or": (0,), "xor": (0,), "but": (0,)}
# (x, y, u, v) for the cells from (x, y) to (u, v), level or aslant.
RUNS = {
    "wire": ((0, 0, 19, 0),),
    "up": ((0, 8, 5, 8), (6, 7, 13, 0), (14, 0, 19, 0)),
    "down": ((0, 0, 5, 0), (6, 1, 13, 8), (14, 8, 19, 8)),
    "copy": ((0, 0, 4, 0), (5, -1, 6, -1), (7, 0, 19, 0), (5, 1, 12, 8), (13, 8, 19, 8)),
    "or": (
        (0, 0, 1, 0), (2, 1, 2, 1), (8, 3, 8, 3),
        (0, 8, 1, 8), (2, 7, 2, 7), (8, 5, 8, 5),
        (9, 4, 9, 4), (10, 4, 14, 0), (15, 0, 19, 0),
    ),
    "xor": (
        (0, 0, 1, 0), (2, 1, 2, 1), (8, 3, 8, 3),
        (0, 8, 1, 8), (2, 7, 2, 7), (8, 5, 8, 5),
        (9, 3, 9, 3), (9, 4, 9, 4), (9, 5, 9, 5), (10, 4, 14, 0), (15, 0, 19, 0),
    ),
    "but": (
        (0, 0, 3, 0), (9, 2, 10, 3),
        (0, 8, 1, 8), (2, 7, 3, 6), (9, 5, 10, 5),
        (11, 4, 11, 4), (11, 5, 11, 5), (11, 6, 11, 6), (12, 5, 17, 0), (18, 0, 19, 0),
    ),
}
# (x, y) for the first cell of each one way.
ONE_WAYS = {
    "wire": (), "up": (), "down": (), "copy": (),
    "or": ((3, 2), (3, 6)), "xor": ((3, 2), (3, 6)), "but": ((4, 1), (4, 5)),
}
ONE_WAY = ((0, 0), (1, 0), (2, -1), (2, 0), (2, 1), (3, -1), (3, 1), (4, 0))


def is_kind(value):
    """Whether a value is a kind of tiles."""
    return isinstance(value, str) and value in KINDS


def _check_kind(kind):
    if not is_kind(kind):
        raise BadName(kind)


def kinds():
    """The seven kinds of tiles."""
    return KINDS


def ins_of(kind):
    """The rows of a tile that it reads."""
    _check_kind(kind)
    return INS[kind]


def outs_of(kind):
    """The rows of a tile that it gives a bit."""
    _check_kind(kind)
    return OUTS[kind]


def word_of(kind, bits):
    """The bits of the outs, from those of the ins."""
    _check_kind(kind)
    if not is_bits(bits, len(INS[kind])):
        raise BadRow(bits)
    if kind == "or":
        return (bits[0] | bits[1],)
    if kind == "xor":
        return (bits[0] ^ bits[1],)
    if kind == "but":
        return (bits[0] & (1 - bits[1]),)
    return (bits[0],) * len(OUTS[kind])


def _run(x, y, u, v):
    slope = 0 if v == y else (v - y) // abs(v - y)
    return [(x + k, y + slope * k) for k in range(u - x + 1)]


def tile_cells(kind):
    """The shape of a kind, ascending."""
    _check_kind(kind)
    found = []
    for x, y, u, v in RUNS[kind]:
        found.extend(_run(x, y, u, v))
    for x, y in ONE_WAYS[kind]:
        found.extend([(x + dx, y + dy) for dx, dy in ONE_WAY])
    return tuple(sorted(found))


def upper(tile):
    """The upper row of a tile."""
    kind, row = tile
    return row - 1 if kind == "up" else row


def rows_of(tile):
    """All rows at which a tile stands, ascending."""
    top = upper(tile)
    return (top,) if tile[0] == "wire" else (top, top + 1)


def cells_at(tile, x):
    """The shape of a tile whose columns begin at x."""
    down = PITCH * upper(tile)
    return tuple([(column + x, line + down) for column, line in tile_cells(tile[0])])


def _ports(x, rows):
    return [(x, PITCH * row) for row in rows]


def _is_on(cell, ports):
    """Whether a cell is on the line of one of these ports."""
    return cell[1] in [port[1] for port in ports]


def _has_its_place(cells, ins, outs):
    """Whether ascending cells lie where those of a tile may lie, and have all ports."""
    if not are_told_cells(cells) or any([one >= other for one, other in zip(cells, cells[1:])]):
        return False
    for cell in cells:
        if not (0 <= cell[0] < WIDTH and -1 <= cell[1] <= PITCH + 1):
            return False
        if cell[0] <= 1 and not _is_on(cell, ins):
            return False
        if cell[0] >= WIDTH - 2 and not _is_on(cell, outs):
            return False
    return all([port in cells for port in ins + outs])


def _lit(ports, bits):
    return [port for port, bit in zip(ports, bits) if bit == 1]


def _spots(sparks, ports):
    return [sparks.spot_of(port) for port in ports]


def _tells_word(cells, kind, bits):
    """Whether cells answer these bits by the word of a kind, and are at rest behind it."""
    sparks = Sparks(cells)
    ins = _ports(0, INS[kind])
    outs = _ports(WIDTH - 1, OUTS[kind])
    in_spots = _spots(sparks, ins)
    out_spots = _spots(sparks, outs)
    right = _spots(sparks, _lit(outs, word_of(kind, bits)))
    sparks.light(_spots(sparks, _lit(ins, bits)))
    for moment in range(1, GAP + 1):
        sparks.go()
        if any([spot in sparks.heads for spot in in_spots]):
            return False
        wanted = right if moment == WIDTH - 1 else []
        if [spot for spot in out_spots if spot in sparks.heads] != wanted:
            return False
        if moment == WIDTH and sparks.mark() != ((), tuple(right)):
            return False
    return True


def is_tile(kind, cells):
    """Whether a value are cells that do what a shape of this kind has to do."""
    _check_kind(kind)
    if not _has_its_place(cells, _ports(0, INS[kind]), _ports(WIDTH - 1, OUTS[kind])):
        return False
    return all([_tells_word(cells, kind, bits) for bits in all_bits(len(INS[kind]))])
