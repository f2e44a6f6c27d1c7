"""What is seen on a board at told moments."""

from sparkboard.boards import check_rows, played_on
from sparkboard.cells import is_cell
from sparkboard.errors import BadCell, BadNumber, BadRow
from sparkboard.pictures import corners, picture
from sparkboard.values import is_from, is_row


def _stands(board, rows, moments):
    """The Stands at ascending moments."""
    play = played_on(board, rows)
    told = []
    for moment in moments:
        play.go_to(moment)
        told.append(play.sparks.as_stand())
    return tuple(told)


def stand_at(board, rows, moment):
    """The Stand at a moment."""
    check_rows(board, rows)
    if not is_from(moment, 0):
        raise BadNumber("moment", moment)
    return _stands(board, rows, (moment,))[0]


def _check_moments(moments):
    if not is_row(moments) or not all([is_from(moment, 0) for moment in moments]):
        raise BadRow(moments)
    if any([one >= other for one, other in zip(moments, moments[1:])]):
        raise BadRow(moments)


def movie(board, rows, moments):
    """The Stands at ascending moments."""
    check_rows(board, rows)
    _check_moments(moments)
    return _stands(board, rows, moments)


def probe(board, rows, cell, last):
    """The ascending moments from 0 to last at which a cell is a head."""
    check_rows(board, rows)
    play = played_on(board, rows)
    spot = play.sparks.spot_of(cell)
    if spot is None:
        raise BadCell(cell)
    if not is_from(last, 0):
        raise BadNumber("last", last)
    told = []
    while play.moment <= last:
        if spot in play.sparks.heads:
            told.append(play.moment)
        play.go_on(last + 1)
    return tuple(told)


def reel(board, rows, moments):
    """The pictures of a movie, each one behind a line that tells its moment."""
    stands = movie(board, rows, moments)
    low, high = corners(board.cells)
    parts = []
    for moment, stand in zip(moments, stands):
        parts.append(f"moment {moment}\n")
        parts.append(picture(board.cells, stand, low, high))
    return "".join(parts)
