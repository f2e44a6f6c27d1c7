"""Pictures of boards: a line for each y, with a sign for each x."""

from sparkboard.cells import Stand
from sparkboard.errors import BadLine, BadRow

SIGNS = ".#HT"


def picture(cells, stand, low, high):
    """The signs of all cells from low to high."""
    if high[0] < low[0]:
        return ""
    signs = {(x, y): "#" for x, y in cells}
    for head in stand.heads:
        if head in signs:
            signs[head] = "H"
    for tail in stand.tails:
        if tail in signs:
            signs[tail] = "T"
    lines = []
    for y in range(low[1], high[1] + 1):
        lines.append("".join([signs.get((x, y), ".") for x in range(low[0], high[0] + 1)]) + "\n")
    return "".join(lines)


def read_picture(text):
    """The cells of a picture, and the Stand on them."""
    if not isinstance(text, str):
        raise BadLine(0, 0)
    found = {sign: [] for sign in SIGNS}
    for y, line in enumerate(text.split("\n")):
        for x, sign in enumerate(line):
            if sign not in found:
                raise BadLine(y + 1, x + 1)
            found[sign].append((x, y))
    cells = found["#"] + found["H"] + found["T"]
    return tuple(sorted(cells)), Stand(found["H"], found["T"])


def corners(cells):
    """The cell of the least x and y of cells, and that of the greatest ones."""
    if len(cells) == 0:
        raise BadRow(cells)
    xs = [cell[0] for cell in cells]
    ys = [cell[1] for cell in cells]
    return (min(xs), min(ys)), (max(xs), max(ys))
