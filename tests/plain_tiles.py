"""What the document says of tiles, stages and row programs, in the plainest way; and inputs for tests."""

import itertools
import re

from tests.plain import all_bits, plain_cycle, plain_neighbours

KINDS = ("wire", "up", "down", "copy", "or", "xor", "but")
INS = {"wire": (0,), "up": (1,), "down": (0,), "copy": (0,), "or": (0, 1), "xor": (0, 1), "but": (0, 1)}
OUTS = {"wire": (0,), "up": (0,), "down": (1,), "copy": (0, 1), "or": (0,), "xor": (0,), "but": (0,)}
WORDS = {
    "wire": lambda a: (a,),
    "up": lambda a: (a,),
    "down": lambda a: (a,),
    "copy": lambda a: (a, a),
    "or": lambda a, b: (1 if a == 1 or b == 1 else 0,),
    "xor": lambda a, b: (1 if a + b == 1 else 0,),
    "but": lambda a, b: (1 if a == 1 and b == 0 else 0,),
}

# The words of [21] themselves.
XOR = (
    "(0, 0), (1, 0), (2, 1), D(3, 2), (8, 3); (0, 8), (1, 8), (2, 7), D(3, 6), (8, 5); (9, 3), (9, 4), (9, 5), "
    "(10, 4) .. (14, 0), (15, 0) .. (19, 0)"
)
SHAPES = {
    "wire": "(0, 0) .. (19, 0)",
    "down": "(0, 0) .. (5, 0), (6, 1) .. (13, 8), (14, 8) .. (19, 8)",
    "up": "(0, 8) .. (5, 8), (6, 7) .. (13, 0), (14, 0) .. (19, 0)",
    "copy": "(0, 0) .. (4, 0), (5, -1), (6, -1), (7, 0) .. (19, 0), (5, 1) .. (12, 8), (13, 8) .. (19, 8)",
    "xor": XOR,
    "or": XOR.replace("(9, 3), (9, 4), (9, 5)", "(9, 4)"),
    "but": (
        "(0, 0) .. (3, 0), D(4, 1), (9, 2), (10, 3); (0, 8), (1, 8), (2, 7), (3, 6), D(4, 5), (9, 5), (10, 5); "
        "(11, 4), (11, 5), (11, 6), (12, 5) .. (17, 0), (18, 0), (19, 0)"
    ),
}


def cells_of_words(words):
    """The cells of such words, ascending."""
    pair = r"\((-?\d+), (-?\d+)\)"
    cells = []
    for one_way, x, y, _, u, v in re.findall(rf"(D?){pair}( \.\. {pair})?", words):
        x, y = int(x), int(y)
        if one_way:
            cells += [(x, y), (x + 1, y), (x + 2, y - 1), (x + 2, y), (x + 2, y + 1)]
            cells += [(x + 3, y - 1), (x + 3, y + 1), (x + 4, y)]
            continue
        cells.append((x, y))
        while u and (x, y) != (int(u), int(v)):
            x += 1
            y += (int(v) > y) - (int(v) < y)
            cells.append((x, y))
    return tuple(sorted(cells))


# Shapes that run.

def near_of(cells):
    lot = set(cells)
    return {cell: [other for other in plain_neighbours(cell) if other in lot] for cell in cells}


def plain_run_of(cells, events, moments):
    """The stands (heads, tails), as sets, at the moments from 0 on; events tells what is lit at each."""
    near = near_of(cells)
    heads, tails, stands = set(), set(), []
    for moment in range(moments):
        if moment:
            bare = [cell for cell in cells if cell not in heads and cell not in tails]
            lit = {cell for cell in bare if sum(other in heads for other in near[cell]) in (1, 2)}
            heads, tails = lit, heads
        heads = heads | {cell for cell in events.get(moment, ()) if cell not in tails}
        stands.append((heads, tails))
    return stands


def in_ports(kind):
    return [(0, 8 * row) for row in INS[kind]]


def out_ports(kind):
    return [(19, 8 * row) for row in OUTS[kind]]


def lit_of(ports, bits):
    return {port for port, bit in zip(ports, bits) if bit}


def plain_is_tile(kind, cells):
    """[23], for a tuple of cells."""
    if list(cells) != sorted(set(cells)):
        return False
    lines, out_lines = {8 * row for row in INS[kind]}, {8 * row for row in OUTS[kind]}
    for x, y in cells:
        if x not in range(20) or y not in range(-1, 10):
            return False
        if x in (0, 1) and y not in lines or x in (18, 19) and y not in out_lines:
            return False
    if not set(in_ports(kind) + out_ports(kind)) <= set(cells):
        return False
    for bits in all_bits(len(INS[kind])):
        stands = plain_run_of(cells, {0: lit_of(in_ports(kind), bits)}, 25)
        right = lit_of(out_ports(kind), WORDS[kind](*bits))
        for moment, (heads, _) in enumerate(stands):
            if heads & set(out_ports(kind)) != (right if moment == 19 else set()):
                return False
            if moment and heads & set(in_ports(kind)):
                return False
        if stands[20] != (set(), right):
            return False
    return True


# Stages.

def plain_top(tile):
    return tile[1] - 1 if tile[0] == "up" else tile[1]


def plain_rows_of(tile):
    kind, row = tile
    return {"wire": (row,), "up": (row - 1, row)}.get(kind, (row, row + 1))


def plain_behind(stage, bits):
    """[25]: the row bits behind a stage."""
    behind = [0] * len(bits)
    for kind, r in stage:
        if kind == "wire":
            behind[r] = bits[r]
        elif kind == "up":
            behind[r - 1] = bits[r]
        elif kind == "down":
            behind[r + 1] = bits[r]
        elif kind == "copy":
            behind[r] = behind[r + 1] = bits[r]
        else:
            behind[r] = WORDS[kind](bits[r], bits[r + 1])[0]
    return tuple(behind)


def plain_borders(stages, bits):
    told = [tuple(bits)]
    for stage in stages:
        told.append(plain_behind(stage, told[-1]))
    return tuple(told)


def plain_sources(stages, row):
    lot = {row}
    for stage in reversed(stages):
        ahead = set()
        for tile in stage:
            given = {plain_top(tile) + out for out in OUTS[tile[0]]}
            if given & lot:
                ahead |= {plain_top(tile) + read for read in INS[tile[0]]}
        lot = ahead
    return tuple(sorted(lot))


def random_stage(chance, rows, bare=0.2):
    """A stage of tiles on so many rows; some rows are left out."""
    stage, row = [], 0
    while row < rows:
        kind = chance.choice(KINDS) if row + 1 < rows else "wire"
        if chance.random() < bare:
            row += 1
            continue
        stage.append((kind, row + 1 if kind == "up" else row))
        row += 1 if kind == "wire" else 2
    return tuple(stage)


def random_stages(chance, rows, many, bare=0.2):
    return tuple(random_stage(chance, rows, bare) for _ in range(many))


def all_stages(rows):
    """Each stage of so many rows."""
    tiles = [(kind, row) for kind in KINDS for row in range(rows + 1)]
    tiles = [tile for tile in tiles if min(plain_rows_of(tile)) >= 0 and max(plain_rows_of(tile)) < rows]
    found = [()]
    for stage in found:
        end = max(plain_rows_of(stage[-1])) + 1 if stage else 0
        found += [stage + (tile,) for tile in tiles if min(plain_rows_of(tile)) >= end]
    return found


# Programs, as (rows, inputs, registers, stages, nexts, outs).

def plain_meant(parts, state, bits):
    rows, inputs, registers, stages, nexts, outs = parts
    ahead = [0] * rows
    for row, bit in zip(inputs, bits):
        ahead[row] = bit
    for (row, _), bit in zip(registers, state):
        ahead[row] = bit
    behind = plain_borders(stages, ahead)[-1]
    return tuple(behind[row] for row in outs), tuple(behind[row] for row in nexts)


def plain_played(parts, lines):
    state, told = [reset for _, reset in parts[2]], []
    for bits in lines:
        outs, state = plain_meant(parts, state, bits)
        told.append(outs)
    return tuple(told)


def plain_does(parts, plan):
    if (len(parts[1]), len(parts[5])) != (plan[0], len(plan[4])):
        return False
    if [reset for _, reset in parts[2]] != list(plan[1]):
        return False
    for state, bits in itertools.product(all_bits(len(plan[1])), all_bits(plan[0])):
        values, behind = plain_cycle(plan, state, bits)
        if plain_meant(parts, state, bits) != (tuple(values[signal] for signal in plan[4]), behind):
            return False
    return True


def random_parts(chance, rows, stages):
    """The parts of a program."""
    ahead = chance.sample(range(rows), chance.randrange(rows + 1))
    registers = chance.randrange(len(ahead) + 1)
    behind = chance.sample(range(rows), chance.randrange(registers, rows + 1))
    return (
        rows,
        tuple(ahead[registers:]),
        tuple((row, chance.randrange(2)) for row in ahead[:registers]),
        random_stages(chance, rows, stages),
        tuple(behind[:registers]),
        tuple(behind[registers:]),
    )


def parts_of(program):
    return program.rows, program.inputs, program.registers, program.stages, program.nexts, program.outs


def plan_of(circuit):
    return circuit.inputs, circuit.resets, circuit.gates, circuit.nexts, circuit.outputs


def wrong_stages(strange):
    """Triples: stages that are wrong on four rows, and the numbers of the stage and the tile that are wrong first."""
    wire = ("wire", 0)
    no_tiles = [
        ("wire",), ("wire", 0, 0), (), ("wire", "0"), ("wire", None), ("wire", True), ("wire", False), ("wire", 1.0),
        ("Wire", 0), ("", 0), (0, "wire"), (None, 0), (b"wire", 0), ["wire", 0], ("and", 0), ("not", 0), ("one", 0),
        ("wire", (0,)), (("wire",), 0), ("wire ", 0), {"wire": 0}, "w0", "wire",
    ] + strange
    no_rows = [
        ("wire", -1), ("wire", 4), ("up", 0), ("up", -1), ("up", 4), ("down", 3), ("down", -1), ("copy", 3), ("or", 3),
        ("xor", 3), ("but", 3), ("or", -1), ("xor", -1), ("but", -1), ("copy", -1), ("wire", 10 ** 30), ("up", -10 ** 30),
    ]
    others = [value for value in strange + [[], [()], [(wire,)], {}, "stages"] if not isinstance(value, tuple)]
    found = [(value, None, None) for value in others]
    found += [((stage,), 0, None) for stage in strange + [[wire], "", {}, [], {wire: 1}] if not isinstance(stage, tuple)]
    found += [(((tile,),), 0, 0) for tile in no_tiles + no_rows]
    found += [(((wire,), (wire, tile)), 1, 1) for tile in no_tiles + no_rows]
    found += [
        (((wire, wire),), 0, 1), ((("copy", 0), ("wire", 1)), 0, 0), (((("copy", 0), ("wire", 1)),), 0, 1),
        (((("wire", 1), ("wire", 0)),), 0, 1), (((("wire", 2), ("up", 1)),), 0, 1), (((("or", 0), ("or", 1)),), 0, 1),
        (((("wire", 0), ("up", 1)),), 0, 1), (((("down", 0), ("up", 2)),), 0, 1), (((("up", 1), ("xor", 1)),), 0, 1),
        (((("wire", 3), ("or", 0)),), 0, 1), (((("wire", 0), ("wire", 2), ("wire", 1)),), 0, 2),
        (((("wire", 1), ("wire", 0), ("bad", 0)),), 0, 1), (((("wire", 1), ("wire", 3)), (), (wire, wire)), 2, 1),
        (((wire,), [wire], (wire, wire)), 1, None), (((wire, wire), [wire]), 0, 1), (((), None, None), 1, None),
    ]
    return found
