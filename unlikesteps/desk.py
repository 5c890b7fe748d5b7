"""A desk that keeps a board and a lay, and is told lines of text."""

from unlikesteps.errors import NoDeed, NoLine, NoNumber, NoPoint
from unlikesteps.fits import first_fit, fits_many, free_rows
from unlikesteps.lays import is_bare_line, is_board, need_whole_within, with_point
from unlikesteps.steps import first_like
from unlikesteps.texts import lay_text, number_of


def new_board(board, lay, numbers):
    """Tell a board so wide and so high, and its lay without points."""
    wide, high = numbers
    return ((wide, high), (None,) * wide)


def put_point(board, lay, numbers):
    """Tell the board and the lay with a point in this line and row, in the stead of the line's elder one."""
    line, row = numbers
    need_whole_within(line, 0, board[0] - 1)
    need_whole_within(row, 0, board[1] - 1)
    if row in with_point(lay, line, None):
        raise NoPoint("another line's point lies in the row")
    return (board, with_point(lay, line, row))


def take_point(board, lay, numbers):
    """Tell the board and the lay without a point in this line."""
    need_whole_within(numbers[0], 0, board[0] - 1)
    return (board, with_point(lay, numbers[0], None))


def words_of(numbers):
    """Tell the numbers with a blank between two, "none" where there are none."""
    return " ".join([str(number) for number in numbers]) if numbers else "none"


def tell_shown(board, lay, numbers):
    """Tell the text of the lay."""
    return lay_text(board, lay)


def tell_like(board, lay, numbers):
    """Tell the lines of the first like steps."""
    return words_of(first_like(board, lay))


def tell_free(board, lay, numbers):
    """Tell the rows that are free for a line without a point."""
    if not is_bare_line(lay, numbers[0]):
        raise NoNumber("that is no line without a point")
    return words_of(free_rows(board, lay, numbers[0]))


def tell_many(board, lay, numbers):
    """Tell how many whole lays fit."""
    return str(fits_many(board, lay))


def tell_first(board, lay, numbers):
    """Tell the rows of the first whole lay that fits."""
    return words_of(first_fit(board, lay))


DEEDS = {"board": new_board, "put": put_point, "take": take_point}
QUESTIONS = {
    "shown": tell_shown, "like": tell_like, "free": tell_free, "many": tell_many, "first": tell_first,
}
MANY_NUMBERS = {
    "board": 2, "put": 2, "take": 1, "back": 0, "shown": 0, "like": 0, "free": 1, "many": 0, "first": 0,
}


def makes_line(word, numbers):
    """Tell whether the word and these numbers, None for what is no number, make a line."""
    if MANY_NUMBERS.get(word) != len(numbers) or None in numbers:
        return False
    return word != "board" or is_board(tuple(numbers))


def read_line(line):
    """Tell the word of the line and the list of its numbers."""
    if isinstance(line, str):
        word, *others = line.split(" ")
        numbers = [number_of(other) for other in others]
        if makes_line(word, numbers):
            return (word, numbers)
    raise NoLine("that is no line of a desk")


class Desk:
    """A board and a lay, changed by deeds and asked by questions."""

    def __init__(self):
        # The last one is how the desk stands: so a deed that is undone takes its own away.
        self.states = [((1, 1), (None,))]

    def say(self, line):
        """Do the deed or answer the question that the line tells."""
        word, numbers = read_line(line)
        board, lay = self.states[-1]
        if word in QUESTIONS:
            question = QUESTIONS[word]
            return question(board, lay, numbers)
        if word == "back":
            self.undo()
        else:
            deed = DEEDS[word]
            self.states.append(deed(board, lay, numbers))
        return "ok"

    def undo(self):
        """Take the last deed that stands away."""
        if len(self.states) == 1:
            raise NoDeed("no deed stands")
        self.states.pop()
