"""Whole lays that fit a lay: promises 2, 4, 5, 31 and 32, and the free rows of 41."""

import unittest

from tests.things import NO_BOARDS, NO_LAYS, SMALL_BOARDS, RefusalCase, all_lays, plain_fits, plain_free
from unlikesteps.errors import NoBoard, NoLay, TooMany
from unlikesteps.fits import all_fits, first_fit, fits_many, free_rows, rows_for, sure

TOLD = (all_fits, fits_many, first_fit, rows_for, sure)
LARGEST = (6, 7)


def bare(board):
    return (None,) * board[0]


def lays_with_points(board, wholes):
    """Lays of one, two and three points of each of these whole lays, and the whole lays themselves."""
    for whole in wholes:
        yield whole
        for first in range(board[0]):
            for kept in ({first}, {first, board[0] - 1}, {0, first, board[0] - 2}):
                yield tuple(row if line in kept else None for line, row in enumerate(whole))


def lays_to_try():
    for board in SMALL_BOARDS:
        for lay in all_lays(board):
            yield board, lay
    for board in ((5, 5), (6, 6), LARGEST, (6, 5), (5, 7), (6, 1), (1, 7), (2, 7)):
        yield board, bare(board)
        wholes = plain_fits(board, bare(board))
        for lay in lays_with_points(board, wholes[::200]):
            yield board, lay
    for lay in ((0, 1, 2, None, None, None), (0, 1, 2, 3, 4, 5), (6, 0, 5, 1, None, None), (None, 3, None, 5, None, 1)):
        yield LARGEST, lay


class FitsTest(unittest.TestCase):
    def test_many_one_and_none(self):
        self.assertEqual(all_fits((3, 3), (None, None, None)), [(0, 2, 1), (1, 0, 2), (1, 2, 0), (2, 0, 1)])
        self.assertEqual(all_fits((3, 3), (1, None, None)), [(1, 0, 2), (1, 2, 0)])
        self.assertEqual(all_fits((3, 3), (None, None, 1)), [(0, 2, 1), (2, 0, 1)])
        self.assertEqual(all_fits((3, 3), (0, None, None)), [(0, 2, 1)])
        self.assertEqual(all_fits((3, 3), (0, 2, 1)), [(0, 2, 1)])
        self.assertEqual(all_fits((3, 3), (None, 1, None)), [])
        self.assertEqual(all_fits((1, 3), (None,)), [(0,), (1,), (2,)])
        self.assertEqual(all_fits((1, 1), (0,)), [(0,)])

    def test_lays_with_like_steps(self):
        for board, lay in (
            ((3, 3), (0, 1, 2)), ((4, 4), (0, 1, 2, None)), ((5, 7), (0, None, 2, None, 4)), ((4, 4), (0, 2, 1, 3)),
            (LARGEST, (0, 1, 2, 3, 4, 5)),
        ):
            self.assertEqual(all_fits(board, lay), [])
            self.assertEqual(fits_many(board, lay), 0)
            self.assertIsNone(first_fit(board, lay))
            self.assertEqual(rows_for(board, lay), ((),) * board[0])
            self.assertIsNone(sure(board, lay))

    def test_fewer_rows_than_lines(self):
        for board in ((2, 1), (3, 2), (6, 5), (6, 1), (4, 3)):
            self.assertEqual(all_fits(board, bare(board)), [])
            self.assertEqual(fits_many(board, bare(board)), 0)
            self.assertIsNone(first_fit(board, bare(board)))

    def test_how_many_full_lays_are_unlike(self):
        for wide, many in ((1, 1), (2, 2), (3, 4), (4, 12), (5, 40), (6, 116)):
            self.assertEqual(fits_many((wide, wide), bare((wide, wide))), many)

    def test_at_the_bounds(self):
        told = all_fits(LARGEST, bare(LARGEST))
        self.assertEqual(told, plain_fits(LARGEST, bare(LARGEST)))
        self.assertEqual(fits_many(LARGEST, bare(LARGEST)), len(told))
        self.assertEqual(first_fit(LARGEST, bare(LARGEST)), told[0])
        self.assertEqual(fits_many((1, 7), (None,)), 7)
        self.assertEqual(fits_many((6, 1), bare((6, 1))), 0)

    def test_many_lays(self):
        for board, lay in lays_to_try():
            found = plain_fits(board, lay)
            told = all_fits(board, lay)
            self.assertEqual(told, found, (board, lay))
            self.assertTrue(all(one < other for one, other in zip(told, told[1:])), (board, lay))
            self.assertEqual(fits_many(board, lay), len(found), (board, lay))
            self.assertEqual(first_fit(board, lay), found[0] if found else None, (board, lay))


class RowsTest(unittest.TestCase):
    def test_rows_of_each_line(self):
        self.assertEqual(rows_for((3, 3), (None,) * 3), ((0, 1, 2), (0, 2), (0, 1, 2)))
        self.assertEqual(rows_for((3, 3), (1, None, None)), ((1,), (0, 2), (0, 2)))
        self.assertEqual(rows_for((3, 3), (0, None, None)), ((0,), (2,), (1,)))
        self.assertEqual(rows_for((3, 3), (None, 1, None)), ((), (), ()))
        self.assertEqual(rows_for((1, 7), (None,)), ((0, 1, 2, 3, 4, 5, 6),))
        self.assertEqual(rows_for((2, 1), (0, None)), ((), ()))

    def test_points_that_all_have(self):
        self.assertEqual(sure((3, 3), (None,) * 3), (None,) * 3)
        self.assertEqual(sure((3, 3), (1, None, None)), (1, None, None))
        self.assertEqual(sure((3, 3), (0, None, None)), (0, 2, 1))
        self.assertEqual(sure((1, 1), (None,)), (0,))
        self.assertIsNone(sure((3, 3), (None, 1, None)))
        self.assertIsNone(sure((2, 1), (0, None)))

    def test_many_lays(self):
        for board, lay in lays_to_try():
            found = plain_fits(board, lay)
            told = rows_for(board, lay)
            self.assertEqual(told, tuple(
                tuple(row for row in range(board[1]) if any(fit[line] == row for fit in found))
                for line in range(board[0])
            ), (board, lay))
            self.assertTrue(isinstance(told, tuple) and all(isinstance(rows, tuple) for rows in told))
            expected = tuple(
                found[0][line] if all(fit[line] == found[0][line] for fit in found) else None
                for line in range(board[0])
            ) if found else None
            self.assertEqual(sure(board, lay), expected, (board, lay))


class FreeTest(unittest.TestCase):
    def test_free_rows(self):
        self.assertEqual(free_rows((3, 3), (0, None, None), 1), [1, 2])
        self.assertEqual(free_rows((3, 3), (0, 1, None), 2), [])
        self.assertEqual(free_rows((3, 4), (0, 1, None), 2), [3])
        self.assertEqual(free_rows((12, 12), (None,) * 12, 11), list(range(12)))
        self.assertEqual(free_rows((12, 12), (11,) + (None,) * 11, 11), list(range(11)))

    def test_no_row_is_free_in_a_lay_with_like_steps(self):
        self.assertEqual(free_rows((4, 12), (0, 1, 2, None), 3), [])

    def test_many_lays(self):
        for board in SMALL_BOARDS:
            for lay in all_lays(board):
                for line, row in enumerate(lay):
                    if row is None:
                        self.assertEqual(free_rows(board, lay, line), plain_free(board, lay, line), (board, lay, line))


class KeptTest(unittest.TestCase):
    def test_a_told_list_is_the_askers_own(self):
        for lay in ((None,) * 3, (0, 2, 1), (0, 1, 2)):
            told = all_fits((3, 3), lay)
            kept = list(told)
            told.append(5)
            told[0] = None
            self.assertEqual(all_fits((3, 3), lay), kept)
            self.assertEqual(fits_many((3, 3), lay), len(kept))
            self.assertEqual(first_fit((3, 3), lay), kept[0] if kept else None)


class RefusalTest(RefusalCase):
    def all_refused(self, error, *handed):
        for told in TOLD:
            self.refused(error, told, *handed)

    def test_no_board(self):
        for thing in NO_BOARDS:
            for lay in ((2, None, 0), "ab", None):
                self.all_refused(NoBoard, thing, lay)

    def test_no_lay(self):
        for thing in NO_LAYS:
            self.all_refused(NoLay, (3, 4), thing)

    def test_too_many(self):
        for board in ((7, 7), (6, 8), (7, 1), (1, 8), (7, 8), (12, 12), (12, 1), (1, 12), (7, 6)):
            self.all_refused(TooMany, board, bare(board))
            self.all_refused(TooMany, board, (0,) + bare(board)[1:])
        self.all_refused(TooMany, (7, 7), tuple(range(7)))
        self.all_refused(TooMany, (6, 8), (0, 1, 2, 3, 4, 5))

    def test_too_many_goes_last(self):
        for board in ((7, 7), (6, 8), (12, 12)):
            for thing in ("ab", None, [None] * board[0], (None,) * (board[0] + 1), (0,) * board[0], (True,) * board[0]):
                self.all_refused(NoLay, board, thing)
        for board in ((13, 7), (6, 13), (7, True), [7, 7], (7, 8, 9)):
            self.all_refused(NoBoard, board, (None,) * 7)


if __name__ == "__main__":
    unittest.main()
