"""The whole lays that fit a lay: those that are unlike, have all its points, and one in each line."""

from unlikesteps.lays import need_at_most, need_lay, with_point
from unlikesteps.steps import is_unlike

MOST_WIDE = 6
MOST_HIGH = 7


def need_small(board, lay):
    """Refuse what is no board, no lay of it, or a board on which there is too much to try."""
    need_lay(board, lay)
    need_at_most(board, MOST_WIDE, MOST_HIGH)


def free_rows(board, lay, line):
    """Tell the rising list of the rows that are free for a line in which the lay has no point."""
    return [
        row for row in range(board[1])
        if row not in lay and is_unlike(board, with_point(lay, line, row))
    ]


def all_fits(board, lay):
    """Tell the rising list of all whole lays that fit the lay."""
    need_small(board, lay)
    # A lay without a bare line is never tried with a point more, so its own steps are looked at here.
    found = [lay] if is_unlike(board, lay) else []
    for line in range(board[0]):
        if lay[line] is None:
            found = [with_point(part, line, row) for part in found for row in free_rows(board, part, line)]
    return found


def fits_many(board, lay):
    """Tell how many whole lays fit the lay."""
    return len(all_fits(board, lay))


def first_fit(board, lay):
    """Tell the first whole lay that fits the lay, None where there is none."""
    return min(all_fits(board, lay), default=None)


def rows_for(board, lay):
    """Tell for each line the rising tuple of the rows that it has in the whole lays that fit."""
    found = all_fits(board, lay)
    return tuple([tuple(sorted({fit[line] for fit in found})) for line in range(board[0])])


def sure(board, lay):
    """Tell the lay of those points that all whole lays that fit have, None where none fits."""
    choices = rows_for(board, lay)
    if () in choices:
        return None
    return tuple([rows[0] if len(rows) == 1 else None for rows in choices])
