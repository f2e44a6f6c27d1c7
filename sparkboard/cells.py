"""Cells, stands and the one rule by which sparks run."""

from sparkboard.errors import BadCell, BadNumber, BadRow
from sparkboard.values import is_below, is_from, is_integer, is_row, kept


def is_cell(value):
    """Whether a value may be passed as a cell."""
    return is_row(value) and len(value) == 2 and is_integer(value[0]) and is_integer(value[1])


def are_told_cells(value):
    """Whether a value is a tuple of cells that are tuples."""
    return isinstance(value, tuple) and all([isinstance(item, tuple) and is_cell(item) for item in value])


def cells_of(value):
    """The cells of a row of unlike cells, ascending; None for what is no such row."""
    if not is_row(value):
        return None
    found = {}
    for item in value:
        if not is_cell(item):
            return None
        found[(item[0], item[1])] = True
    if len(found) != len(value):
        return None
    return tuple(sorted(list(found)))


def checked_cells(value):
    """The cells of a row, ascending; BadRow for what is no row of unlike cells."""
    row = cells_of(value)
    if row is None:
        raise BadRow(value)
    return row


class Stand:
    """Which cells are heads and which are tails; all others are bare."""

    def __init__(self, heads, tails):
        self.heads = checked_cells(heads)
        self.tails = checked_cells(tails)
        taken = {cell: True for cell in self.heads}
        if any([cell in taken for cell in self.tails]):
            raise BadRow(tails)

    def __eq__(self, other):
        return isinstance(other, Stand) and self.heads == other.heads and self.tails == other.tails


class Loop:
    """From the moment first on stands come back every length moments."""

    def __init__(self, first, length):
        self.first = kept(first)
        self.length = kept(length)


def neighbours(cell):
    """The eight neighbours of a cell, ascending."""
    x, y = cell
    return (
        (x - 1, y - 1), (x - 1, y), (x - 1, y + 1),
        (x, y - 1), (x, y + 1),
        (x + 1, y - 1), (x + 1, y), (x + 1, y + 1),
    )


def distance(one, other):
    """The greater one of both differences of two cells."""
    return max(abs(one[0] - other[0]), abs(one[1] - other[1]))


class Sparks:
    """Ascending cells that run: cells by their numbers, so that only those next to heads are looked at."""

    def __init__(self, cells):
        self.cells = cells
        self.spots = {cell: spot for spot, cell in enumerate(cells)}
        self.near = [None] * len(cells)
        self.heads = {}
        self.tails = {}

    def spot_of(self, cell):
        """The number of a cell, None for any value that is none of the cells."""
        return self.spots.get((cell[0], cell[1])) if is_cell(cell) else None

    def put(self, stand):
        """Begins with a stand; BadCell for its first cell that is none of the cells."""
        for cell in stand.heads + stand.tails:
            if cell not in self.spots:
                raise BadCell(cell)
        self.heads = {self.spots[cell]: True for cell in stand.heads}
        self.tails = {self.spots[cell]: True for cell in stand.tails}

    def light(self, spots):
        """Makes those of these cells heads that are bare."""
        for spot in spots:
            if spot not in self.tails:
                self.heads[spot] = True

    def look_around(self, spot):
        """Looks, once for each cell, which cells are its neighbours."""
        found = [self.spots.get(cell) for cell in neighbours(self.cells[spot])]
        self.near[spot] = [other for other in found if other is not None]

    def go(self):
        """One step of the one rule."""
        heads = self.heads
        tails = self.tails
        near = self.near
        lit = {}
        most = 1
        for head in heads:
            if near[head] is None:
                self.look_around(head)
            for spot in near[head]:
                if spot in lit:
                    lit[spot] += 1
                    most = max(most, lit[spot])
                elif spot not in heads and spot not in tails:
                    lit[spot] = 1
        self.tails = heads
        self.heads = lit if most <= 2 else {spot: True for spot, many in lit.items() if many <= 2}

    def mark(self):
        """What the stand is told from: the numbers of heads and tails."""
        return tuple(sorted(list(self.heads))), tuple(sorted(list(self.tails)))

    def put_back(self, mark):
        """Begins with a stand of which mark told."""
        self.heads = {spot: True for spot in mark[0]}
        self.tails = {spot: True for spot in mark[1]}

    def stand_of(self, mark):
        """The Stand of which mark told."""
        return Stand([self.cells[spot] for spot in mark[0]], [self.cells[spot] for spot in mark[1]])

    def as_stand(self):
        """The Stand of this moment."""
        return self.stand_of(self.mark())


class Play:
    """Cells that run while rows of bits come in at their entries, one row each period."""

    def __init__(self, cells, entries, period):
        self.sparks = Sparks(cells)
        self.entries = [self.sparks.spot_of(cell) for cell in entries]
        self.period = period
        self.rows = ()
        self.moment = 0

    def begin(self, rows):
        """Calls the stand of this moment that of the moment 0, at which the first row comes in."""
        self.rows = rows
        self.moment = 0
        self.take_in()

    def take_in(self):
        """Lights the entries that have a 1 in the row that comes in at this moment, if one does."""
        number, behind = divmod(self.moment, self.period)
        if behind == 0 and number < len(self.rows):
            self.sparks.light([spot for spot, bit in zip(self.entries, self.rows[number]) if bit == 1])

    def go_on(self, end):
        """To the next moment, or, if all is bare, to the next one at which a row may come in; to end at most."""
        sparks = self.sparks
        if sparks.heads or sparks.tails:
            sparks.go()
            self.moment += 1
        else:
            number = self.moment // self.period + 1
            self.moment = min(end, number * self.period if number < len(self.rows) else end)
        self.take_in()

    def go_to(self, end):
        """To a moment, that of now or a later one."""
        while self.moment < end:
            self.go_on(end)

    def shown(self, spots):
        """A bit for each of these cells: whether it is a head."""
        return tuple([1 if spot in self.sparks.heads else 0 for spot in spots])


def sparks_on(cells, stand):
    """The cells, with a stand on them, ready to run; BadRow(cells), then BadCell."""
    sparks = Sparks(checked_cells(cells))
    sparks.put(stand)
    return sparks


def step(cells, stand):
    """The Stand one moment later, by a look at each cell."""
    sparks = sparks_on(cells, stand)
    heads = {cell: True for cell in stand.heads}
    tails = {cell: True for cell in stand.tails}
    lit = []
    for cell in sparks.cells:
        many = len([near for near in neighbours(cell) if near in heads])
        if cell not in heads and cell not in tails and many in (1, 2):
            lit.append(cell)
    return Stand(lit, stand.heads)


def quick_step(cells, stand):
    """The Stand one moment later, by a look at cells next to heads alone."""
    sparks = sparks_on(cells, stand)
    sparks.go()
    return sparks.as_stand()


def _check_count(what, value):
    if not is_from(value, 0):
        raise BadNumber(what, value)


def _lit_spots(sparks, lit):
    """For each moment the numbers of the cells that are lit then; BadCell for the first one that is none."""
    spots = {}
    for moment, cell in lit:
        spot = sparks.spot_of(cell)
        if spot is None:
            raise BadCell(cell)
        spots.setdefault(moment, []).append(spot)
    return spots


def later(cells, stand, steps, lit=()):
    """The Stand so many steps later, cells being lit at told moments."""
    sparks = sparks_on(cells, stand)
    _check_count("steps", steps)
    spots = _lit_spots(sparks, lit)
    sparks.light(spots.get(0, ()))
    for moment in range(1, steps + 1):
        sparks.go()
        sparks.light(spots.get(moment, ()))
    return sparks.as_stand()


def stream(cells, stand, steps, lit, cell):
    """The ascending moments from 0 to steps at which a cell is a head."""
    sparks = sparks_on(cells, stand)
    _check_count("steps", steps)
    spots = _lit_spots(sparks, lit)
    looked_at = sparks.spot_of(cell)
    moments = []
    for moment in range(steps + 1):
        if moment > 0:
            sparks.go()
        sparks.light(spots.get(moment, ()))
        if looked_at in sparks.heads:
            moments.append(moment)
    return tuple(moments)


def part_near(cells, cell, k):
    """The cells at a distance of at most k from a cell."""
    row = checked_cells(cells)
    return tuple([near for near in row if distance(near, cell) <= k])


def apart(one, other):
    """Whether each cell of one has a distance of at least 2 from each of the other."""
    first = checked_cells(one)
    second = checked_cells(other)
    fewer, more = (first, second) if len(first) < len(second) else (second, first)
    lot = {cell: True for cell in more}
    for cell in fewer:
        if cell in lot or any([near in lot for near in neighbours(cell)]):
            return False
    return True


def together(one, other):
    """The Stand of the heads and tails of two stands; BadRow if they have a cell in common."""
    taken = {cell: True for cell in one.heads + one.tails}
    if any([cell in taken for cell in other.heads + other.tails]):
        raise BadRow(other.heads)
    return Stand(one.heads + other.heads, one.tails + other.tails)


def moved(cells, dx, dy):
    """The cells with dx and dy added."""
    return tuple([(x + dx, y + dy) for x, y in checked_cells(cells)])


def moved_stand(stand, dx, dy):
    """The Stand of moved heads and tails."""
    return Stand(moved(stand.heads, dx, dy), moved(stand.tails, dx, dy))


def _turned_cell(x, y, way):
    if way >= 4:
        x = -x
    if way & 2:
        x, y = -x, -y
    if way & 1:
        x, y = -y, x
    return x, y


def turned(cells, way):
    """The cells turned: the ways from 4 on are those from 0 on of the cells with x turned over."""
    row = checked_cells(cells)
    if not is_below(way, 8):
        raise BadNumber("way", way)
    return tuple(sorted([_turned_cell(x, y, way) for x, y in row]))


def turned_stand(stand, way):
    """The Stand of turned heads and tails."""
    return Stand(turned(stand.heads, way), turned(stand.tails, way))


def loop_of(cells, stand, most):
    """The Loop into which a stand runs within so many moments, None if it runs into none by then."""
    sparks = sparks_on(cells, stand)
    _check_count("most", most)
    seen = {sparks.mark(): 0}
    for moment in range(1, most + 1):
        sparks.go()
        mark = sparks.mark()
        if mark in seen:
            # Each stand tells the next one, so the first stand that comes again is where the loop begins.
            return Loop(seen[mark], moment - seen[mark])
        seen[mark] = moment
    return None
