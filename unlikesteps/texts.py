"""Lays as texts, and texts as lays."""

from unlikesteps.errors import NoText
from unlikesteps.lays import is_board, is_lay, need_lay


def number_of(word):
    """Tell the number that the word writes in one or two figures, None where it writes none."""
    # Python's own reading would let signs, blanks, noughts ahead and other figures pass.
    numbers = {str(number): number for number in range(100)}
    return numbers.get(word)


def lay_text(board, lay):
    """Tell the text that writes the lay and its board."""
    need_lay(board, lay)
    rows = ["." if row is None else str(row) for row in lay]
    return " ".join([f"{board[0]}x{board[1]}:"] + rows)


def read_lay(text):
    """Tell the tuple (board, lay) that the text writes."""
    if isinstance(text, str):
        head, *rows = text.split(" ")
        board = tuple([number_of(side) for side in head.removesuffix(":").split("x")])
        lay = tuple([number_of(row) for row in rows])
        # This reading lets some texts pass that are written otherwise, so the lay is written again.
        if is_board(board) and is_lay(board, lay) and lay_text(board, lay) == text:
            return (board, lay)
    raise NoText("the text writes no lay")
