"""Things that several tests hand in or reckon by."""

import unittest
from functools import cache
from itertools import combinations, permutations, product


def nest(depth):
    thing = ()
    for _ in range(depth - 1):
        thing = [thing]
    return thing


# None of these is a board, a lay of a board of two lines or more, or a list of points.
ODD_THINGS = [
    None, True, False, 0, 1, 12, -1, 10 ** 39, -(10 ** 39), "", "ab", "3x4: 2 . 0", "\n\t~",
    (), (1,), (1, 2, 3, 4, 5, 6, 7, 8, 9, 10, 11, 12, 13), [[]], [None], [0, 1], [1, 2, 3],
    {}, {0: 1, 1: 0}, {(0, 0): 1}, {"a": [1]}, ((0, 1), (1, 0)), ([0], [1]), ({}, {}),
    ("0", "1"), (True, False), nest(40), [None] * 4999, (None,) * 4999,
    1.0, b"ab", {1, 2}, object(), int, len,
]

NO_BOARDS = ODD_THINGS + [(0, 3), (3, 0), (13, 3), (3, 13), (3, True), (3, None), [3, 3], (3, 3, 3)]

# None of these is a lay of the board (3, 4).
NO_LAYS = ODD_THINGS + [
    (0, 1), (0, 1, 2, 3), (0, 1, 4), (0, 1, -1), (0, 1, 1), (0, 2, True), (False, 2, 1), (0, 2, "1"),
    (0, 2, [1]), (0, 2, {}), [0, 2, 1], {0: 0, 1: 2, 2: 1},
]

# None of these is a whole number.
NO_NUMBERS = [
    None, True, False, "", "0", "1", (), (0,), [], [1], {}, {0: 1}, 0.0, 1.0, b"1", nest(40), object(), int, len,
]

LONG_NUMBERS = [10 ** 39, 10 ** 40 - 1, 1234567890 * 10 ** 30 + 7]

SMALL_BOARDS = list(product(range(1, 5), range(1, 5)))
WIDE_LAY = ((5, 7), (6, None, 0, 3, None))
# Unlike and full: in line k the rest, by 13, of 2 taken k times, less 1.
POWERS = (0, 1, 3, 7, 2, 5, 11, 10, 8, 4, 9, 6)


def all_lays(board):
    """Every lay of the board, by trying all rows and None in all lines."""
    wide, high = board
    found = []
    for rows in product([None, *range(high)], repeat=wide):
        kept = [row for row in rows if row is not None]
        if all(kept.count(row) == 1 for row in kept):
            found.append(rows)
    return found


def none_least(lay):
    """What lays compare by where None is less than a number."""
    return [(row is not None, row) for row in lay]


def pairs_of(lay):
    """Each two lines with points, with the step between them."""
    lines = [line for line, row in enumerate(lay) if row is not None]
    return [((other - line, lay[other] - lay[line]), line, other) for line, other in combinations(lines, 2)]


def like_tuples(lay):
    """All tuples (line, other, here, there) of two like steps."""
    found = []
    for step, line, other in pairs_of(lay):
        for also, here, there in pairs_of(lay):
            if step == also and (line, other) < (here, there):
                found.append((line, other, here, there))
    return found


def some_lays():
    """All lays of small boards, and full ones of greater boards."""
    for board in SMALL_BOARDS:
        for lay in all_lays(board):
            yield board, lay
    for wide in (5, 6):
        for lay in permutations(range(wide)):
            yield (wide, wide), lay
    yield WIDE_LAY
    yield (12, 12), tuple(range(12))
    yield (12, 12), tuple((5 * line) % 12 for line in range(12))
    yield (12, 1), (None,) * 11 + (0,)
    yield (1, 12), (11,)


@cache
def unlike_lays(board):
    """Every unlike lay of the board, rising."""
    return sorted([lay for lay in all_lays(board) if not like_tuples(lay)], key=none_least)


@cache
def whole_unlike_lays(board):
    """Every unlike lay of the board that has a point in each line, rising."""
    wide, high = board
    return [lay for lay in permutations(range(high), wide) if not like_tuples(lay)]


def plain_fits(board, lay):
    """Every whole lay that fits the lay, by trying all of its board."""
    return [
        whole for whole in whole_unlike_lays(board)
        if all(row is None or row == also for row, also in zip(lay, whole))
    ]


def put(lay, line, row):
    """The lay with a point more."""
    return tuple(row if at == line else elder for at, elder in enumerate(lay))


def plain_free(board, lay, line):
    """The rows that are free for the line, by looking at all tuples of like steps."""
    return [row for row in range(board[1]) if row not in lay and not like_tuples(put(lay, line, row))]


class RefusalCase(unittest.TestCase):
    def refused(self, error, told, *handed):
        """What is handed in is refused with just this class, and stays as it was."""
        before = repr(handed)
        with self.assertRaises(error, msg=(told, handed)) as caught:
            told(*handed)
        self.assertIs(caught.exception.__class__, error)
        self.assertEqual(repr(handed), before)

    def told_anew(self, told, *handed):
        """The list that is told is new: whatever is done to it, the same asked again has the same answer."""
        first = told(*handed)
        kept = list(first)
        first.append("more")
        first[0] = "other"
        self.assertEqual(told(*handed), kept)
        told(*handed).clear()
        self.assertEqual(told(*handed), kept)
