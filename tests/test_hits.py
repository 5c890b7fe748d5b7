"""Hits of lays that are moved, and pairs of like steps: promises 2, 3, 4, 5, 6, 21 and 22."""

import unittest

from tests.things import (
    NO_BOARDS, NO_LAYS, NO_NUMBERS, SMALL_BOARDS, WIDE_LAY, RefusalCase, all_lays, like_tuples, some_lays,
)
from unlikesteps.errors import NoBoard, NoLay, NoNumber
from unlikesteps.hits import all_hits, hits, hits_between, like_many, most_hits
from unlikesteps.steps import is_unlike

LONG = 10 ** 39
BOARD = (3, 4)
LAY = (2, None, 0)


def plain_points(lay):
    return {(line, row) for line, row in enumerate(lay) if row is not None}


def plain_hits(one, other, right, up):
    """How many points of the first lay, moved so, are points of the second."""
    return len({(line + right, row + up) for line, row in plain_points(one)} & plain_points(other))


def moves_of(board):
    """All moves within the board, and some beyond it on each side."""
    wide, high = board
    return [(right, up) for right in range(-wide - 1, wide + 2) for up in range(-high - 1, high + 2)]


def pairs_of_lays():
    for board in SMALL_BOARDS:
        if board[0] * board[1] <= 9:
            lays = all_lays(board)
            yield from ((board, one, other) for one in lays for other in lays)


class HitsTest(unittest.TestCase):
    def test_moves_within_the_board(self):
        self.assertEqual(hits((3, 3), (0, 1, 2), 1, 1), 2)
        self.assertEqual(hits((3, 3), (0, 1, 2), 2, 2), 1)
        self.assertEqual(hits((3, 3), (0, 1, 2), 1, 2), 0)
        self.assertEqual(hits(BOARD, LAY, 2, -2), 1)
        self.assertEqual(hits(BOARD, LAY, 2, 2), 0)
        self.assertEqual(hits((5, 5), (0, None, 2, None, 4), 2, 2), 2)

    def test_moves_back(self):
        self.assertEqual(hits((3, 3), (0, 1, 2), -1, -1), 2)
        self.assertEqual(hits((3, 3), (0, 1, 2), -2, -2), 1)
        self.assertEqual(hits(BOARD, LAY, -2, 2), 1)
        self.assertEqual(hits(BOARD, LAY, -2, -2), 0)

    def test_no_move_hits_each_point(self):
        for board, lay, many in (((3, 3), (0, 1, 2), 3), (BOARD, LAY, 2), (BOARD, (None,) * 3, 0), ((1, 1), (0,), 1)):
            self.assertEqual(hits(board, lay, 0, 0), many)

    def test_moves_beyond_the_board(self):
        for right, up in (
            (3, 0), (0, 4), (-3, 0), (0, -4), (3, 4), (LONG, LONG), (-LONG, 0), (0, LONG), (0, -LONG), (LONG, 0),
            (-(10 ** 40 - 1), 10 ** 40 - 1),
        ):
            self.assertEqual(hits(BOARD, (0, 1, 2), right, up), 0)
            self.assertEqual(hits(BOARD, (None,) * 3, right, up), 0)

    def test_lays_of_no_point_and_of_one(self):
        for right, up in moves_of(BOARD):
            self.assertEqual(hits(BOARD, (None,) * 3, right, up), 0)
            self.assertEqual(hits(BOARD, (None, 3, None), right, up), int((right, up) == (0, 0)))

    def test_many_lays(self):
        for board in SMALL_BOARDS:
            for lay in all_lays(board):
                for right, up in moves_of(board):
                    self.assertEqual(hits(board, lay, right, up), plain_hits(lay, lay, right, up), (lay, right, up))


class AllHitsTest(unittest.TestCase):
    def test_all_moves_that_hit(self):
        self.assertEqual(all_hits((3, 3), (0, 1, 2)), [(-2, -2, 1), (-1, -1, 2), (0, 0, 3), (1, 1, 2), (2, 2, 1)])
        self.assertEqual(all_hits((2, 2), (1, 0)), [(-1, 1, 1), (0, 0, 2), (1, -1, 1)])
        self.assertEqual(all_hits(*WIDE_LAY), [
            (-3, 3, 1), (-2, 6, 1), (-1, -3, 1), (0, 0, 3), (1, 3, 1), (2, -6, 1), (3, -3, 1),
        ])

    def test_lays_of_no_point_and_of_one(self):
        self.assertEqual(all_hits(BOARD, (None,) * 3), [])
        self.assertEqual(all_hits(BOARD, (None, 3, None)), [(0, 0, 1)])
        self.assertEqual(all_hits((1, 1), (None,)), [])
        self.assertEqual(all_hits((12, 12), (None,) * 11 + (11,)), [(0, 0, 1)])

    def test_many_lays(self):
        for board, lay in some_lays():
            told = all_hits(board, lay)
            self.assertTrue(all(one < other for one, other in zip(told, told[1:])), lay)
            found = [(right, up, plain_hits(lay, lay, right, up)) for right, up in moves_of(board)]
            self.assertEqual(told, [tuple_of for tuple_of in found if tuple_of[2]], lay)
            # Unlike just where each move but (0, 0) hits one point at most.
            once = all(many < 2 for right, up, many in told if (right, up) != (0, 0))
            self.assertIs(is_unlike(board, lay), once, lay)


class BetweenTest(unittest.TestCase):
    def test_the_first_is_moved_not_the_second(self):
        self.assertEqual(hits_between((2, 2), (0, None), (None, 1), 1, 1), 1)
        self.assertEqual(hits_between((2, 2), (0, None), (None, 1), -1, -1), 0)
        self.assertEqual(hits_between((2, 2), (None, 1), (0, None), -1, -1), 1)
        self.assertEqual(hits_between((2, 2), (None, 1), (0, None), 1, 1), 0)
        self.assertEqual(hits_between((4, 4), (0, 1, None, None), (None, None, 2, 3), 2, 2), 2)

    def test_moves_beyond_the_board(self):
        for right, up in ((LONG, 0), (0, LONG), (-LONG, -LONG), (3, 0), (0, -4)):
            self.assertEqual(hits_between(BOARD, (0, 1, 2), (3, 2, 1), right, up), 0)

    def test_lays_of_no_point(self):
        for one, other in (((None,) * 3, LAY), (LAY, (None,) * 3), ((None,) * 3, (None,) * 3)):
            self.assertEqual(hits_between(BOARD, one, other, 0, 0), 0)
            self.assertEqual(most_hits(BOARD, one, other), 0)

    def test_many_pairs_of_lays(self):
        for board, one, other in pairs_of_lays():
            found = [plain_hits(one, other, right, up) for right, up in moves_of(board)]
            told = [hits_between(board, one, other, right, up) for right, up in moves_of(board)]
            self.assertEqual(told, found, (board, one, other))
            self.assertEqual(most_hits(board, one, other), max(found), (board, one, other))

    def test_a_lay_with_itself(self):
        for board, lay in some_lays():
            self.assertEqual(most_hits(board, lay, lay), len(plain_points(lay)))
        self.assertEqual(hits_between((3, 3), (0, 1, 2), (0, 1, 2), 1, 1), 2)

    def test_most_hits(self):
        self.assertEqual(most_hits((3, 3), (0, 1, 2), (2, 1, 0)), 1)
        self.assertEqual(most_hits((3, 3), (0, 1, None), (None, 1, 2)), 2)
        self.assertEqual(most_hits((12, 12), tuple(range(12)), tuple(range(11, -1, -1))), 1)
        self.assertEqual(most_hits((12, 12), tuple(range(12)), tuple(range(1, 12)) + (0,)), 11)


class LikeManyTest(unittest.TestCase):
    def test_pairs_of_like_steps(self):
        self.assertEqual(like_many((3, 3), (0, 2, 1)), 0)
        self.assertEqual(like_many((3, 3), (0, 1, 2)), 1)
        self.assertEqual(like_many((4, 4), (0, 1, 2, 3)), 4)
        self.assertEqual(like_many((5, 5), (0, None, 2, None, 4)), 1)
        self.assertEqual(like_many(BOARD, (None,) * 3), 0)
        self.assertEqual(like_many((1, 1), (0,)), 0)
        self.assertEqual(like_many((12, 12), tuple(range(12))), sum(many * (many - 1) // 2 for many in range(12)))

    def test_many_lays(self):
        for board, lay in some_lays():
            self.assertEqual(like_many(board, lay), len(like_tuples(lay)), lay)


class KeptTest(unittest.TestCase):
    def test_a_told_list_is_the_askers_own(self):
        told = all_hits((2, 2), (1, 0))
        told.append(5)
        told[0] = None
        self.assertEqual(all_hits((2, 2), (1, 0)), [(-1, 1, 1), (0, 0, 2), (1, -1, 1)])
        all_hits((1, 1), (None,)).append(5)
        self.assertEqual(all_hits((1, 1), (None,)), [])


class RefusalTest(RefusalCase):
    def test_no_board(self):
        for thing in NO_BOARDS:
            for lay in (LAY, "ab", None):
                for number in (0, None):
                    self.refused(NoBoard, hits, thing, lay, number, number)
                    self.refused(NoBoard, hits_between, thing, lay, lay, number, number)
                self.refused(NoBoard, all_hits, thing, lay)
                self.refused(NoBoard, most_hits, thing, lay, lay)
                self.refused(NoBoard, like_many, thing, lay)

    def test_no_lay(self):
        for thing in NO_LAYS:
            for number in (0, None):
                self.refused(NoLay, hits, BOARD, thing, number, number)
                self.refused(NoLay, hits_between, BOARD, thing, LAY, number, number)
                self.refused(NoLay, hits_between, BOARD, LAY, thing, number, number)
                self.refused(NoLay, hits_between, BOARD, thing, thing, number, number)
            self.refused(NoLay, all_hits, BOARD, thing)
            self.refused(NoLay, like_many, BOARD, thing)
            self.refused(NoLay, most_hits, BOARD, thing, LAY)
            self.refused(NoLay, most_hits, BOARD, LAY, thing)
            # A lay without points must not hide that the other one is none.
            self.refused(NoLay, most_hits, BOARD, (None,) * 3, thing)
            self.refused(NoLay, hits_between, BOARD, (None,) * 3, thing, 0, 0)

    def test_no_number(self):
        for thing in NO_NUMBERS:
            for lay in (LAY, (None,) * 3):
                self.refused(NoNumber, hits, BOARD, lay, thing, 0)
                self.refused(NoNumber, hits, BOARD, lay, 0, thing)
                self.refused(NoNumber, hits, BOARD, lay, thing, thing)
                self.refused(NoNumber, hits, BOARD, lay, LONG, thing)
                self.refused(NoNumber, hits_between, BOARD, lay, LAY, thing, 0)
                self.refused(NoNumber, hits_between, BOARD, lay, LAY, 0, thing)
                self.refused(NoNumber, hits_between, BOARD, lay, LAY, thing, thing)


if __name__ == "__main__":
    unittest.main()
