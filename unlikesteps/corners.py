"""Lays with a corner's line and row taken away, or put to them."""

from unlikesteps.errors import NoPoint, TooFew
from unlikesteps.lays import LONGEST_SIDE, need_at_most, need_lay, need_whole_within
from unlikesteps.steps import is_unlike, need_unlike

LAST_CORNER = 3


def need_corner(board, lay, corner):
    """Refuse what is no board, no lay of it, or no number of a corner."""
    need_lay(board, lay)
    need_whole_within(corner, 0, LAST_CORNER)


def corner_point(board, corner):
    """Tell the point of the board's corner."""
    wide, high = board
    found = [(0, 0), (0, high - 1), (wide - 1, 0), (wide - 1, high - 1)]
    return found[corner]


def taken(board, lay, corner):
    """Tell what is left of the lay when the line and the row of the corner's point are taken away."""
    need_corner(board, lay, corner)
    line, row = corner_point(board, corner)
    if lay[line] != row:
        raise NoPoint("no point lies at the corner")
    if 1 in board:
        raise TooFew("the board has one line or one row alone")
    rest = lay[:line] + lay[line + 1:]
    return tuple([at if at is None or at < row else at - 1 for at in rest])


def grown(board):
    """Tell the board that is one wider and one higher."""
    return (board[0] + 1, board[1] + 1)


def put_to(board, lay, corner):
    """Tell the lay that comes when a line and a row are put to the corner, with a point where they meet."""
    need_corner(board, lay, corner)
    need_at_most(board, LONGEST_SIDE - 1, LONGEST_SIDE - 1)
    line, row = corner_point(grown(board), corner)
    moved = tuple([at if at is None or at < row else at + 1 for at in lay])
    return moved[:line] + (row,) + moved[line:]


def good_corners(board, lay):
    """Tell the rising list of the corners by which an unlike lay stays unlike when they are put to it."""
    need_unlike(board, lay)
    # put_to refuses what can't grow, so like steps are told of first.
    return [corner for corner in range(LAST_CORNER + 1) if is_unlike(grown(board), put_to(board, lay, corner))]
