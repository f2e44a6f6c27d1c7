"""Paths: wires of each length, and ways that lead back around a board."""

from sparkboard.cells import are_told_cells
from sparkboard.errors import BadNumber, BadRow
from sparkboard.values import is_below, is_from, is_row, kept

# Bumps of ways are no higher: higher ones would make the ways that go around them longer.
MOST_HEIGHT = 40


class Ways:
    """Ways back, and how many steps each of them has."""

    def __init__(self, steps, paths):
        self.steps = kept(steps)
        self.paths = kept(paths)


def _are_paths(rows):
    """Whether rows of told cells are paths, with cells of unlike ones apart."""
    numbers = {}
    number = 0
    for row in rows:
        for cell in row:
            numbers[cell] = number
            number += 1
        # A number that no cell has keeps the end of a row from passing for the cell ahead of the next row.
        number += 1
    if len(numbers) != sum([len(row) for row in rows]):
        return False
    side_by_side = 0
    for cell, number in numbers.items():
        x, y = cell
        for near in ((x, y + 1), (x + 1, y - 1), (x + 1, y), (x + 1, y + 1)):
            if near in numbers:
                if abs(numbers[near] - number) != 1:
                    return False
                side_by_side += 1
    return side_by_side == len(numbers) - len(rows)


def is_path(cells):
    """Whether a value is a path."""
    return are_told_cells(cells) and len(cells) > 0 and _are_paths((cells,))


def most_extra(width, height):
    """How many steps more than a straight wire padded adds at most."""
    if width < 2 or height < 3:
        return 0
    return (2 * height - 4) * ((width - 2) // (2 * height))


def _bump(x, extra):
    """The cells behind (x, 0) of a bump with so many steps, from 1 on, more than a straight wire."""
    height = (extra + 5) // 2
    cells = [(x + 1, -y) for y in range(1, height)]
    cells.append((x + 2, -height))
    if extra & 1 == 1:
        # One step more aslant, and one upright one less.
        height -= 1
        x += 1
        cells.append((x + 2, -height))
    cells.extend([(x + 3, -y) for y in range(height - 1, 0, -1)])
    cells.append((x + 4, 0))
    return cells


def _bump_columns(height, extra):
    """A number of columns on which bumps up to a height have room for so many steps more, any lesser number too."""
    most = 2 * height - 4
    return 4 * ((extra + most - 1) // most) + 1


def _bumped(width, height, extra):
    """A path from (0, 0) to (width, 0) of so many steps more, with bumps up to a height on it."""
    cells = [(0, 0), (1, 0)]
    while extra > 0:
        more = min(extra, 2 * height - 4)
        cells.extend(_bump(cells[-1][0], more))
        extra -= more
    cells.extend([(x, 0) for x in range(cells[-1][0] + 1, width + 1)])
    return tuple(cells)


def padded(width, height, extra):
    """A path from (0, 0) to (width, 0) with so many steps more than a straight wire."""
    if not is_below(extra, most_extra(width, height) + 1):
        raise BadNumber("extra", extra)
    return _bumped(width, height, extra)


def _are_ys(value, top):
    """Whether a value is a row of ys at which ways may begin, or end."""
    if not is_row(value) or not all([is_from(y, top + 4) for y in value]):
        return False
    return all([other - one >= 4 for one, other in zip(value, value[1:])])


def _check_ys(top, starts, ends):
    if not _are_ys(starts, top):
        raise BadRow(starts)
    if not _are_ys(ends, top) or len(ends) != len(starts):
        raise BadRow(ends)


class Lanes:
    """How ways go: each one outside of those ahead of it, and above their bumps, which are no higher than height."""

    def __init__(self, width, top, starts, ends, height):
        self.width = width
        self.top = top
        self.starts = starts
        self.ends = ends
        self.height = height
        self.out = 0
        # Three steps more than the last lane has, which is the longest one, always have room, too.
        most = self.steps_of(len(starts) - 1) + 3
        needs = [_bump_columns(height, most - self.steps_of(number)) for number in range(len(starts))]
        self.out = max([0] + [(need - self.columns(number) + 1) // 2 for number, need in enumerate(needs)])

    def columns(self, number):
        """On how many columns a lane has room for bumps."""
        return self.width + 4 * number + 2 * self.out

    def upper_line(self, number):
        """The y above the field at which a lane leads to the left."""
        return self.top - 2 - (self.height + 2) * number

    def steps_of(self, number):
        """How many steps a lane has without bumps."""
        upright = self.starts[number] + self.ends[number] - 2 * self.upper_line(number)
        return self.width + 2 * (self.columns(number) - self.width) + upright + 4

    def least_steps(self):
        """How many steps all lanes have at least."""
        return self.steps_of(len(self.starts) - 1)

    def go_out(self, steps):
        """Leads all lanes further out, until fewer than four of so many steps are left."""
        self.out += max(0, steps - self.least_steps()) // 4

    def path(self, number, steps):
        """The way of so many steps on a lane."""
        out = 2 + 2 * number + self.out
        right = self.width + out
        left = -out
        line = self.upper_line(number)
        start = self.starts[number]
        end = self.ends[number]
        over = _bumped(right - left - 2, self.height, steps - self.steps_of(number))
        cells = [(x, start) for x in range(self.width, right)]
        cells.extend([(right, y) for y in range(start - 1, line, -1)])
        cells.extend([(right - 1 - x, line + y) for x, y in over])
        cells.extend([(left, y) for y in range(line + 1, end)])
        cells.extend([(x, end) for x in range(left + 1, 1)])
        return tuple(cells)


def _lanes(width, top, starts, ends):
    """The Lanes with the height of bumps with which ways need the fewest steps."""
    steps = []
    for height in range(3, MOST_HEIGHT + 1):
        steps.append((Lanes(width, top, starts, ends, height).least_steps(), height))
    _, best = min(steps)
    return Lanes(width, top, starts, ends, best)


def ways(width, top, starts, ends, least):
    """Ways that fit, of as few steps as these lanes let them have."""
    _check_ys(top, starts, ends)
    if len(starts) == 0:
        return Ways(least, ())
    lanes = _lanes(width, top, starts, ends)
    steps = max(least, lanes.least_steps())
    lanes.go_out(steps)
    return Ways(steps, [lanes.path(number, steps) for number in range(len(starts))])


def _is_out_of_field(cell, width, top):
    """Whether a cell has a distance of 2 at least from each cell of the field."""
    return cell[0] <= -2 or cell[0] >= width + 2 or cell[1] <= top - 2


def _leads(path, width, top, start, end):
    """Whether a path begins and ends as a way, and is out of the field between."""
    if path[:2] != ((width, start), (width + 1, start)) or path[-2:] != ((-1, end), (0, end)):
        return False
    return all([_is_out_of_field(cell, width, top) for cell in path[2:-2]])


def are_ways(width, top, starts, ends, least, told):
    """Whether a value is a Ways as ways describes it."""
    _check_ys(top, starts, ends)
    if not isinstance(told, Ways) or not is_from(told.steps, least) or not isinstance(told.paths, tuple):
        return False
    paths = told.paths
    if len(paths) != len(starts) or not all([are_told_cells(path) for path in paths]):
        return False
    if not all([len(path) == told.steps + 1 for path in paths]) or not _are_paths(paths):
        return False
    return all([_leads(path, width, top, start, end) for path, start, end in zip(paths, starts, ends)])


def period_of(width, told):
    """How many moments the round of a register takes."""
    return width + told.steps
