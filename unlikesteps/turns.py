"""Turns: lines or rows counted from the other end, lines and rows exchanged."""

from unlikesteps.errors import NoTurn
from unlikesteps.fits import all_fits
from unlikesteps.lays import is_tuple_of, is_whole_within, lay_of, need_board, need_whole_within, points

TURNS = (
    (0, 0, 0), (0, 0, 1), (0, 1, 0), (0, 1, 1),
    (1, 0, 0), (1, 0, 1), (1, 1, 0), (1, 1, 1),
)
MOST_LINES = 5


def is_turn(thing):
    """Tell of anything whether it is a turn."""
    return is_tuple_of(thing, 3) and all([is_whole_within(part, 0, 1) for part in thing])


def need_turn(turn):
    """Refuse what is no turn."""
    if not is_turn(turn):
        raise NoTurn("a turn is a tuple of three whole numbers 0 or 1")


def turned_point(board, point, turn):
    """Tell where the point of the board comes to by the turn."""
    line, row = point
    over, lines, rows = turn
    if lines == 1:
        line = board[0] - 1 - line
    if rows == 1:
        row = board[1] - 1 - row
    return (row, line) if over == 1 else (line, row)


def turned_board(board, turn):
    """Tell the board that comes by the turn."""
    need_board(board)
    need_turn(turn)
    return (board[1], board[0]) if turn[0] == 1 else board


def turned(board, lay, turn):
    """Tell the lay that comes by the turn."""
    elder = points(board, lay)
    come = turned_board(board, turn)
    return lay_of(come, [turned_point(board, point, turn) for point in elder])


def all_turned(board, lay):
    """Tell for each turn, in their order, the tuple (board, lay) that it leads the lay to."""
    return [(turned_board(board, turn), turned(board, lay, turn)) for turn in TURNS]


def none_least(led):
    """Tell what a tuple (board, lay) is compared by."""
    board, lay = led
    # Python compares None with no number.
    return (board, tuple([-1 if row is None else row for row in lay]))


def least_turned(board, lay):
    """Tell the least tuple (board, lay) of all that turns lead the lay to."""
    return min(all_turned(board, lay), key=none_least)


def own_turns(board, lay):
    """Tell the rising list of the turns that lead the lay to itself, its board, too."""
    return [turn for turn, led in zip(TURNS, all_turned(board, lay)) if led == (board, lay)]


def turns_together(turn, other):
    """Tell the turn that does the first turn and then the other."""
    need_turn(turn)
    need_turn(other)
    over, lines, rows = turn
    # What the other turn finds as lines were rows where the first one has exchanged them.
    more_lines, more_rows = (other[2], other[1]) if over == 1 else (other[1], other[2])
    return (over ^ other[0], lines ^ more_lines, rows ^ more_rows)


def kinds(number):
    """Tell the rising list of the least ones of all unlike full lays of so many lines."""
    need_whole_within(number, 1, MOST_LINES)
    board = (number, number)
    return sorted({least_turned(board, lay)[1] for lay in all_fits(board, (None,) * number)})


def kinds_many(number):
    """Tell for each of the least ones, in their order, how many full lays turns lead it to."""
    return [len(set(all_turned((number, number), lay))) for lay in kinds(number)]
