"""Boards, the lays of a board, and the points of a lay."""

from unlikesteps.errors import NoBoard, NoLay, NoNumber, NoPoints, TooMany

LONGEST_SIDE = 12


def is_whole(thing):
    """Tell whether the thing is a whole number."""
    # To Python a truth is an int, to this program it is no number.
    return isinstance(thing, int) and not isinstance(thing, bool)


def is_whole_within(thing, least, most):
    """Tell whether the thing is a whole number from least to most."""
    return is_whole(thing) and least <= thing <= most


def need_whole(number):
    """Refuse what is no whole number."""
    if not is_whole(number):
        raise NoNumber("a whole number is an int that is no truth")


def need_whole_within(number, least, most):
    """Refuse what is no whole number from least to most."""
    if not is_whole_within(number, least, most):
        raise NoNumber(f"a whole number from {least} to {most} is asked for")


def is_tuple_of(thing, many):
    """Tell whether the thing is a tuple of so many things."""
    return isinstance(thing, tuple) and len(thing) == many


def is_board(thing):
    """Tell of anything whether it is a board."""
    return is_tuple_of(thing, 2) and all([is_whole_within(side, 1, LONGEST_SIDE) for side in thing])


def need_board(board):
    """Refuse what is no board."""
    if not is_board(board):
        raise NoBoard(f"a board is a tuple of two whole numbers from 1 to {LONGEST_SIDE}")


def need_at_most(board, wide, high):
    """Refuse a board that is wider or higher than told."""
    if board[0] > wide or board[1] > high:
        raise TooMany(f"the board may be at most {wide} wide and {high} high")


def is_lay(board, thing):
    """Tell of anything whether it is a lay of the board."""
    need_board(board)
    wide, high = board
    if not is_tuple_of(thing, wide):
        return False
    rows = [row for row in thing if row is not None]
    # The kinds are looked at first, since lists and dicts can't be members of a set.
    return all([is_whole_within(row, 0, high - 1) for row in rows]) and len(set(rows)) == len(rows)


def need_lay(board, lay):
    """Refuse what is no board, then what is no lay of it."""
    if not is_lay(board, lay):
        raise NoLay("a lay has for each line a row of its board or None, and no row twice")


def is_line(lay, thing):
    """Tell whether the thing is a line of the lay's board."""
    return is_whole_within(thing, 0, len(lay) - 1)


def is_bare_line(lay, thing):
    """Tell whether the thing is a line in which the lay has no point."""
    return is_line(lay, thing) and lay[thing] is None


def with_point(lay, line, row):
    """Tell the lay with a point in this line and row, in the stead of the line's elder one."""
    return lay[:line] + (row,) + lay[line + 1:]


def is_full(board, thing):
    """Tell of anything whether it is a full lay of the board."""
    return is_lay(board, thing) and board[0] == board[1] and None not in thing


def points(board, lay):
    """Tell the rising list of the lay's points."""
    need_lay(board, lay)
    return [(line, row) for line, row in enumerate(lay) if row is not None]


def is_point(board, thing):
    """Tell of anything whether it is a point of the board."""
    return is_tuple_of(thing, 2) and all([is_whole_within(at, 0, side - 1) for at, side in zip(thing, board)])


def lay_of(board, points):
    """Tell the lay of the board that has just these points."""
    need_board(board)
    if not isinstance(points, list) or not all([is_point(board, point) for point in points]):
        raise NoPoints("the points are a list of tuples (line, row) of the board")
    rows = [None] * board[0]
    for line, row in points:
        if rows[line] is not None or row in rows:
            raise NoPoints("no two points lie in one line or in one row")
        rows[line] = row
    return tuple(rows)
