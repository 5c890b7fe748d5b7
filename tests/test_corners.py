"""Corners taken away and put to: promises 2, 4, 5, 6, 71 and 72."""

import unittest

from tests.things import (
    LONG_NUMBERS, NO_BOARDS, NO_LAYS, NO_NUMBERS, POWERS, SMALL_BOARDS, WIDE_LAY, RefusalCase, all_lays,
    like_tuples, unlike_lays,
)
from unlikesteps.corners import good_corners, put_to, taken
from unlikesteps.errors import NoBoard, NoLay, NoNumber, NoPoint, NoUnlike, TooFew, TooMany

WRONG_CORNERS = NO_NUMBERS + LONG_NUMBERS + [-1, -4, 4, 12]
GREATEST_BOARDS = [(12, 12), (12, 1), (1, 12), (12, 11), (11, 12), (12, 3), (3, 12)]

# How far the points go when a line and a row are put to each corner.
MOVES = ((1, 1), (1, 0), (0, 1), (0, 0))


def corner_of(board, corner):
    wide, high = board
    return {0: (0, 0), 1: (0, high - 1), 2: (wide - 1, 0), 3: (wide - 1, high - 1)}[corner]


def larger(board):
    return (board[0] + 1, board[1] + 1)


def points_of(lay):
    return {(line, row) for line, row in enumerate(lay) if row is not None}


def lay_with(wide, points):
    rows = dict(points)
    return tuple(rows.get(line) for line in range(wide))


def plain_put_to(board, lay, corner):
    """The lay with the corner put to it, by its points."""
    right, up = MOVES[corner]
    moved = {(line + right, row + up) for line, row in points_of(lay)}
    return lay_with(board[0] + 1, moved | {corner_of(larger(board), corner)})


def plain_taken(board, lay, corner):
    """The lay with the corner taken away, by its points."""
    right, up = MOVES[corner]
    left = points_of(lay) - {corner_of(board, corner)}
    return lay_with(board[0] - 1, {(line - right, row - up) for line, row in left})


def lays_to_try():
    for board in SMALL_BOARDS:
        for lay in all_lays(board):
            yield board, lay
    for board in ((4, 5), (5, 4)):
        for lay in unlike_lays(board):
            yield board, lay
    yield WIDE_LAY
    for board in ((11, 11), (11, 1), (1, 11), (11, 4), (4, 11)):
        yield board, (None,) * board[0]
    yield (11, 11), tuple(range(11))
    yield (11, 11), tuple(row if row < 11 else None for row in POWERS[:11])
    yield (11, 11), tuple(row - 1 for row in POWERS[1:])


class TakenTest(unittest.TestCase):
    def test_each_corner(self):
        self.assertEqual(taken((3, 4), (0, 3, 1), 0), (2, 0))
        self.assertEqual(taken((3, 4), (3, None, 1), 1), (None, 1))
        self.assertEqual(taken((3, 4), (3, 1, 0), 2), (2, 0))
        self.assertEqual(taken((3, 4), (0, 2, 3), 3), (0, 2))
        self.assertEqual(taken((4, 3), (None, 2, 1, 0), 2), (None, 1, 0))

    def test_nothing_but_the_corner_left(self):
        self.assertEqual(taken((2, 2), (0, None), 0), (None,))
        self.assertEqual(taken((2, 5), (None, 4), 3), (None,))
        self.assertEqual(taken((12, 12), (None,) * 11 + (0,), 2), (None,) * 11)

    def test_many_points(self):
        self.assertEqual(taken((12, 12), POWERS, 0), tuple(row - 1 for row in POWERS[1:]))
        self.assertEqual(taken((12, 12), POWERS[::-1], 2), tuple(row - 1 for row in POWERS[:0:-1]))
        self.assertEqual(taken((12, 12), tuple(range(12)), 3), tuple(range(11)))
        self.assertEqual(taken((12, 12), tuple(range(11, -1, -1)), 1), tuple(range(10, -1, -1)))

    def test_many_lays(self):
        for board, lay in lays_to_try():
            for corner in range(4):
                if 1 not in board and corner_of(board, corner) in points_of(lay):
                    self.assertEqual(taken(board, lay, corner), plain_taken(board, lay, corner), (board, lay, corner))


class PutToTest(RefusalCase):
    def test_each_corner(self):
        self.assertEqual(put_to((2, 3), (2, 0), 0), (0, 3, 1))
        self.assertEqual(put_to((2, 3), (2, 0), 1), (3, 2, 0))
        self.assertEqual(put_to((2, 3), (2, 0), 2), (3, 1, 0))
        self.assertEqual(put_to((2, 3), (2, 0), 3), (2, 0, 3))

    def test_lays_without_points(self):
        self.assertEqual(put_to((1, 1), (None,), 0), (0, None))
        self.assertEqual(put_to((1, 1), (None,), 1), (1, None))
        self.assertEqual(put_to((1, 1), (None,), 2), (None, 0))
        self.assertEqual(put_to((1, 1), (None,), 3), (None, 1))

    def test_many_lays(self):
        for board, lay in lays_to_try():
            for corner in range(4):
                told = put_to(board, lay, corner)
                self.assertEqual(told, plain_put_to(board, lay, corner), (board, lay, corner))
                self.assertEqual(taken(larger(board), told, corner), lay, (board, lay, corner))


class GoodCornersTest(RefusalCase):
    def test_some_lays(self):
        self.assertEqual(good_corners((1, 1), (None,)), [0, 1, 2, 3])
        self.assertEqual(good_corners((1, 1), (0,)), [0, 1, 2, 3])
        self.assertEqual(good_corners((2, 2), (0, 1)), [1, 2])
        self.assertEqual(good_corners((2, 2), (1, 0)), [0, 3])
        self.assertEqual(good_corners((4, 5), (1, 4, 0, 2)), [])
        self.assertEqual(good_corners((11, 11), (None,) * 11), [0, 1, 2, 3])

    def test_many_lays(self):
        for board, lay in lays_to_try():
            if not like_tuples(lay):
                found = [corner for corner in range(4) if not like_tuples(plain_put_to(board, lay, corner))]
                self.assertEqual(good_corners(board, lay), found, (board, lay))

    def test_told_lists_are_the_askers_own(self):
        self.told_anew(good_corners, (2, 2), (0, 1))
        self.told_anew(good_corners, (1, 1), (None,))
        good_corners((4, 5), (1, 4, 0, 2)).append("more")
        self.assertEqual(good_corners((4, 5), (1, 4, 0, 2)), [])


class RefusalTest(RefusalCase):
    def test_no_board(self):
        for thing in NO_BOARDS:
            for lay in ((2, None, 0), (0, 1, 2), "ab", None):
                for corner in (0, 4, None):
                    self.refused(NoBoard, taken, thing, lay, corner)
                    self.refused(NoBoard, put_to, thing, lay, corner)
                self.refused(NoBoard, good_corners, thing, lay)

    def test_no_lay(self):
        for thing in NO_LAYS:
            for corner in (0, 4, None):
                self.refused(NoLay, taken, (3, 4), thing, corner)
                self.refused(NoLay, put_to, (3, 4), thing, corner)
            self.refused(NoLay, good_corners, (3, 4), thing)
        for board in GREATEST_BOARDS:
            for thing in ((None,) * (board[0] + 1), [None] * board[0], (True,) * board[0], None):
                for corner in (0, 4, None):
                    self.refused(NoLay, taken, board, thing, corner)
                    self.refused(NoLay, put_to, board, thing, corner)
                self.refused(NoLay, good_corners, board, thing)

    def test_no_corner(self):
        for thing in WRONG_CORNERS:
            for board, lay in (
                ((3, 4), (2, None, 0)), ((3, 4), (0, None, 3)), ((1, 1), (0,)), ((1, 1), (None,)), ((1, 5), (0,)),
                ((12, 12), POWERS), ((12, 1), (None,) * 12), ((1, 12), (0,)),
            ):
                self.refused(NoNumber, taken, board, lay, thing)
                self.refused(NoNumber, put_to, board, lay, thing)

    def test_no_point(self):
        for board, lay in lays_to_try():
            for corner in range(4):
                if corner_of(board, corner) not in points_of(lay):
                    self.refused(NoPoint, taken, board, lay, corner)

    def test_too_few(self):
        for wide in range(1, 13):
            for corner in range(4):
                for board in ((wide, 1), (1, wide)):
                    line, row = corner_of(board, corner)
                    lay = lay_with(board[0], {(line, row)})
                    self.refused(TooFew, taken, board, lay, corner)
                    self.refused(NoPoint, taken, board, (None,) * board[0], corner)
        self.refused(NoPoint, taken, (1, 3), (1,), 0)
        self.refused(NoPoint, taken, (3, 1), (None, 0, None), 3)

    def test_too_many(self):
        for board in GREATEST_BOARDS:
            for lay in ((None,) * board[0], (0,) + (None,) * (board[0] - 1)):
                for corner in range(4):
                    self.refused(TooMany, put_to, board, lay, corner)
                self.refused(TooMany, good_corners, board, lay)
        self.refused(TooMany, good_corners, (12, 12), POWERS)
        self.refused(TooMany, put_to, (12, 12), tuple(range(12)), 0)

    def test_like_steps(self):
        for board, lay in (
            ((3, 3), (0, 1, 2)), ((4, 4), (0, 1, 2, None)), ((5, 5), (0, None, 2, None, 4)), ((4, 4), (0, 2, 1, 3)),
            ((12, 12), tuple(range(12))), ((3, 12), (0, 1, 2)), ((12, 3), (0, 1, 2) + (None,) * 9),
        ):
            self.refused(NoUnlike, good_corners, board, lay)


if __name__ == "__main__":
    unittest.main()
