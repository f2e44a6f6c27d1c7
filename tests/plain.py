"""What the document says, counted in the plainest way, by nothing of the program; and inputs for tests."""

import itertools
import random


class Strange:
    """A value that makes an error of whatever is asked of it."""

    def __eq__(self, other):
        raise RuntimeError("asked for ==")

    def __hash__(self):
        raise RuntimeError("asked for a hash")

    def __len__(self):
        raise RuntimeError("asked for a length")

    def __iter__(self):
        raise RuntimeError("asked for items")

    def __bool__(self):
        raise RuntimeError("asked for truth")

    def __repr__(self):
        raise RuntimeError("asked for a text")


def strange_values():
    """Values of every kind; none of them is a row of anything but of wrong items."""
    loop = []
    loop.append(loop)
    return [
        None, True, False, 1.5, float("nan"), -1, "", "ab", "(0, 0)", b"ab", {}, {(0, 0): 1}, {1, 2},
        frozenset(), object(), int, len, range(3), iter([]), (i for i in (1, 2)), Strange(), loop, (loop,),
        [None], (None,), ((),), [[]], (Strange(),), [Strange()], ((Strange(), 0),), ((1.0, 2.0),),
        ((True, 0),), ((0, False),), ((0, 0, 0),), ((0,),), ("ab",), ({},), ({1, 2},), 10 ** 5000, 1j,
    ]


def wrong_counts():
    """Values that are no integers from 0 on."""
    return [None, True, False, -1, -10 ** 30, 1.0, "1", "", (), [], (1,), {}, object(), Strange()]


def all_bits(many):
    return list(itertools.product((0, 1), repeat=many))


# The one rule.

def plain_distance(one, other):
    return max(abs(one[0] - other[0]), abs(one[1] - other[1]))


def plain_neighbours(cell):
    found = [(cell[0] + dx, cell[1] + dy) for dx in (-1, 0, 1) for dy in (-1, 0, 1)]
    return sorted(other for other in found if other != cell)


def plain_step(cells, heads, tails):
    """The heads and tails one moment later, as sets."""
    lit = set()
    for cell in cells:
        if cell not in heads and cell not in tails:
            if sum(1 for near in plain_neighbours(cell) if near in heads) in (1, 2):
                lit.add(cell)
    return lit, set(heads)


def plain_lit(cells, heads, tails, lit, moment):
    more = {tuple(cell) for at, cell in lit if at == moment}
    return heads | {cell for cell in more if cell not in heads and cell not in tails}


def plain_stands(cells, heads, tails, steps, lit=()):
    """The stands at the moments from 0 to steps, each lit."""
    heads, tails = set(heads), set(tails)
    stands = []
    for moment in range(steps + 1):
        if moment:
            heads, tails = plain_step(cells, heads, tails)
        heads = plain_lit(cells, heads, tails, lit, moment)
        stands.append((tuple(sorted(heads)), tuple(sorted(tails))))
    return stands


def some_boards(seed, many, width=5, height=4):
    """Pairs of cells and a stand (heads, tails) on them, of all densities."""
    chance = random.Random(seed)
    boards = []
    for _ in range(many):
        filled = chance.choice((0.3, 0.6, 0.9))
        charged = chance.choice((0.1, 0.3, 0.6))
        cells, heads, tails = [], [], []
        for x in range(width):
            for y in range(height):
                if chance.random() < filled:
                    cells.append((x, y))
                    if chance.random() < charged:
                        chance.choice((heads, tails)).append((x, y))
        boards.append((tuple(cells), tuple(heads), tuple(tails)))
    return boards


def all_small_boards(spots):
    """Each lot of these cells with each stand on it."""
    for kinds in itertools.product("-.HT", repeat=len(spots)):
        cells = tuple(cell for cell, kind in zip(spots, kinds) if kind != "-")
        heads = tuple(cell for cell, kind in zip(spots, kinds) if kind == "H")
        tails = tuple(cell for cell, kind in zip(spots, kinds) if kind == "T")
        yield cells, heads, tails


# Circuits, as (inputs, resets, gates, nexts, outputs).

def plain_cycle(plan, state, bits):
    inputs, resets, gates, nexts, outputs = plan
    values = list(bits) + list(state)
    for gate in gates:
        named = [values[signal] for signal in gate[1:]]
        values.append({
            "one": lambda: 1,
            "not": lambda: 1 - named[0],
            "and": lambda: 1 if named == [1, 1] else 0,
            "or": lambda: 1 if 1 in named else 0,
            "xor": lambda: 1 if named in ([0, 1], [1, 0]) else 0,
            "but": lambda: 1 if named == [1, 0] else 0,
        }[gate[0]]())
    return tuple(values), tuple(values[signal] for signal in nexts)


def plain_run(plan, state, rows):
    """The outputs of each cycle, and the state behind them all."""
    told = []
    for bits in rows:
        values, state = plain_cycle(plan, state, bits)
        told.append(tuple(values[signal] for signal in plan[4]))
    return tuple(told), tuple(state)


def plain_least(plan, counterplan):
    """The least number of cycles with which the outputs of two circuits differ, None if there are none."""
    lot = {(tuple(plan[1]), tuple(counterplan[1]))}
    seen = set()
    count = 0
    while lot - seen:
        seen |= lot
        count += 1
        further = set()
        for state, counterstate in lot:
            for bits in all_bits(plan[0]):
                values, behind = plain_cycle(plan, state, bits)
                countervalues, counterbehind = plain_cycle(counterplan, counterstate, bits)
                if [values[s] for s in plan[4]] != [countervalues[s] for s in counterplan[4]]:
                    return count
                further.add((behind, counterbehind))
        lot = further
    return None


def plain_needed(plan):
    inputs, resets, gates, nexts, outputs = plan
    lot = set(outputs)
    while True:
        more = set(lot)
        for signal in lot:
            if inputs <= signal < inputs + len(resets):
                more.add(nexts[signal - inputs])
            if signal >= inputs + len(resets):
                more |= set(gates[signal - inputs - len(resets)][1:])
        if more == lot:
            return tuple(sorted(lot))
        lot = more


def random_plan(chance, inputs, regs, gates, outputs):
    """A circuit's parts; there is a signal at least, or no outputs and registers are asked for."""
    made = []
    for number in range(gates):
        ahead = inputs + regs + number
        kinds = ("one", "not", "and", "or", "xor", "but") if ahead else ("one",)
        kind = chance.choice(kinds)
        many = {"one": 0, "not": 1}.get(kind, 2)
        made.append((kind,) + tuple(chance.randrange(ahead) for _ in range(many)))
    signals = inputs + regs + gates
    return (
        inputs,
        tuple(chance.randrange(2) for _ in range(regs)),
        tuple(made),
        tuple(chance.randrange(signals) for _ in range(regs)),
        tuple(chance.randrange(signals) for _ in range(outputs if signals else 0)),
    )


def some_plans(seed, many, inputs=3, regs=3, gates=6, outputs=3):
    chance = random.Random(seed)
    return [
        random_plan(
            chance, chance.randrange(inputs + 1), chance.randrange(regs + 1),
            chance.randrange(gates + 1), chance.randrange(outputs + 1),
        )
        for _ in range(many)
    ]


def rows_of_bits(seed, inputs, many):
    chance = random.Random(seed)
    return tuple(tuple(chance.randrange(2) for _ in range(inputs)) for _ in range(many))


def only_tuples(value):
    """Whether a value that is told contains no list."""
    if isinstance(value, tuple):
        return all(only_tuples(item) for item in value)
    return isinstance(value, (int, str)) and not isinstance(value, bool)
