"""The most points that unlike lays have, and the places where a point more may lie."""

from unlikesteps.fits import free_rows
from unlikesteps.lays import LONGEST_SIDE, need_at_most, need_board, need_whole_within, with_point
from unlikesteps.steps import need_unlike

MOST_WIDE = 5
MOST_HIGH = 5


def points_many(lay):
    """Tell how many points the lay has."""
    return len(lay) - lay.count(None)


def unlike_lays(board):
    """Tell the rising list of all unlike lays of a board on which there is not too much to try."""
    need_at_most(board, MOST_WIDE, MOST_HIGH)
    found = [(None,) * board[0]]
    for line in range(board[0]):
        # None goes ahead of the rows, since it is less than a number: so the list stays rising.
        found = [
            with_point(lay, line, row)
            for lay in found
            for row in [None] + free_rows(board, lay, line)
        ]
    return found


def unlike_of(board, number):
    """Tell the rising list of the unlike lays of just so many points."""
    return [lay for lay in unlike_lays(board) if points_many(lay) == number]


def most(board):
    """Tell the most points that an unlike lay of the board has."""
    need_board(board)
    return max([points_many(lay) for lay in unlike_lays(board)])


def most_lays(board):
    """Tell the rising list of the unlike lays of the most points."""
    return unlike_of(board, most(board))


def many_of(board, number):
    """Tell how many unlike lays of just so many points the board has."""
    need_board(board)
    need_whole_within(number, 0, LONGEST_SIDE)
    return len(unlike_of(board, number))


def places_left(board, lay):
    """Tell the rising list of the points that an unlike lay could have more, one at a time."""
    need_unlike(board, lay)
    return [
        (line, row)
        for line, elder in enumerate(lay) if elder is None
        for row in free_rows(board, lay, line)
    ]


def is_stuck(board, lay):
    """Tell whether an unlike lay could have no point more."""
    return places_left(board, lay) == []
