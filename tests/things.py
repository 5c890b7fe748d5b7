"""Things that several tests hand in."""

from itertools import product


def nest(depth):
    thing = ()
    for _ in range(depth - 1):
        thing = [thing]
    return thing


# None of these is a board, a lay of a board of two lines or more, or a list of points.
ODD_THINGS = [
    None, True, False, 0, 1, 12, -1, 10 ** 39, -(10 ** 39), "", "ab", "3x4: 2 . 0", "\n\t~",
    (), (1,), (1, 2, 3, 4, 5, 6, 7, 8, 9, 10, 11, 12, 13), [[]], [None], [0, 1], [1, 2, 3],
    {}, {0: 1, 1: 0}, {(0, 0): 1}, {"a": [1]}, ((0, 1), (1, 0)), ([0], [1]), ({}, {}),
    ("0", "1"), (True, False), nest(40), [None] * 4999, (None,) * 4999,
    1.0, b"ab", {1, 2}, object(), int, len,
]

SMALL_BOARDS = list(product(range(1, 5), range(1, 5)))


def all_lays(board):
    """Every lay of the board, by trying all rows and None in all lines."""
    wide, high = board
    found = []
    for rows in product([None, *range(high)], repeat=wide):
        kept = [row for row in rows if row is not None]
        if all(kept.count(row) == 1 for row in kept):
            found.append(rows)
    return found
