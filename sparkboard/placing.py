"""Programs laid out as cells: row r is a line, border s a column, and a spark is on its border at a told moment."""

from sparkboard.cells import Play, Stand
from sparkboard.errors import BadNumber, BadRow
from sparkboard.tiles import GAP, INS, KINDS, OUTS, PITCH, WIDTH, tile_cells, upper
from sparkboard.values import is_below, is_bit_rows, is_bits, is_from


def port(s, row):
    """The port of a row on border s."""
    return s * WIDTH, row * PITCH


def ports(s, rows):
    """The ports of rows on border s, in their order."""
    return [port(s, row) for row in rows]


def register_rows(program):
    """The rows of the registers of a program, in their order."""
    return tuple([row for row, _ in program.registers])


def _read_rows(stage):
    """The rows that tiles of a stage read."""
    return [upper(tile) + row for tile in stage for row in INS[tile[0]]]


def _given_rows(stage):
    """The rows that tiles of a stage give a bit."""
    return [upper(tile) + row for tile in stage for row in OUTS[tile[0]]]


def live_rows(program, s):
    """The rows that something gives a bit on border s, ascending."""
    if not is_below(s, len(program.stages) + 1):
        raise BadNumber("border", s)
    if s == 0:
        return tuple(sorted(program.inputs + register_rows(program)))
    return tuple(sorted(_given_rows(program.stages[s - 1])))


def _laid_rows(program, s):
    """The rows whose ports on border s are cells."""
    rows = []
    if s == 0:
        rows.extend(program.inputs + register_rows(program))
    if s < len(program.stages):
        rows.extend(_read_rows(program.stages[s]))
    else:
        rows.extend(program.outs + program.nexts)
    return rows


def laid(program):
    """The cells of all tiles, and the ports of the first and the last border, ascending."""
    last = len(program.stages)
    shapes = {kind: tile_cells(kind) for kind in KINDS}
    found = {cell: True for s in (0, last) for cell in ports(s, _laid_rows(program, s))}
    for s, stage in enumerate(program.stages):
        for tile in stage:
            x, y = port(s, upper(tile))
            for column, line in shapes[tile[0]]:
                found[(x + column, y + line)] = True
    return tuple(sorted(list(found)))


def _left_of(cells):
    return [(x - 1, y) for x, y in cells]


def border_stand(program, s, bits):
    """The Stand that shows the bits of the live rows of border s."""
    live = live_rows(program, s)
    if not is_bits(bits, len(live)):
        raise BadRow(bits)
    rows = [row for row, bit in zip(live, bits) if bit == 1]
    laid_rows = _laid_rows(program, s)
    heads = ports(s, [row for row in rows if row in laid_rows])
    return Stand(heads, [] if s == 0 else _left_of(ports(s, rows)))


def border_bits(program, s, stand):
    """The bits of the live rows of border s that a stand shows."""
    cells = ports(s, live_rows(program, s))
    if s == 0:
        return tuple([1 if cell in stand.heads else 0 for cell in cells])
    return tuple([1 if cell in stand.tails else 0 for cell in _left_of(cells)])


def crossed(program, rows, p):
    """The bits of the last border to which bits of border 0 lead that come p moments apart, read off from a run."""
    first = live_rows(program, 0)
    if not is_bit_rows(rows, len(first)):
        raise BadRow(rows)
    if not is_from(p, GAP):
        raise BadNumber("gap", p)
    last = len(program.stages)
    play = Play(laid(program), ports(0, first), p)
    play.begin(rows)
    told = []
    for number in range(len(rows)):
        play.go_to(number * p + last * WIDTH)
        told.append(border_bits(program, last, play.sparks.as_stand()))
    return tuple(told)
