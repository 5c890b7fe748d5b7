"""The most points of unlike lays, and places for a point more: promises 2, 3, 4, 5, 6, 51 and 52."""

import unittest
from itertools import product

from tests.things import (
    LONG_NUMBERS, NO_BOARDS, NO_LAYS, NO_NUMBERS, POWERS, SMALL_BOARDS, RefusalCase, like_tuples, put, unlike_lays,
)
from unlikesteps.errors import NoBoard, NoLay, NoNumber, NoUnlike, TooMany
from unlikesteps.most import is_stuck, many_of, most, most_lays, places_left

BOARDS = list(product(range(1, 6), range(1, 6)))
GREAT_BOARDS = [(6, 5), (5, 6), (6, 6), (6, 1), (1, 6), (12, 12), (12, 1), (1, 12), (12, 5), (5, 12)]
WRONG_NUMBERS = NO_NUMBERS + [-1, 13, *LONG_NUMBERS, *[-number for number in LONG_NUMBERS]]


def many_points(lay):
    return sum(row is not None for row in lay)


def plain_places(board, lay):
    """Each place for a point more, by a look at each line and each row without a point."""
    return [
        (line, row) for line in range(board[0]) for row in range(board[1])
        if lay[line] is None and row not in lay and not like_tuples(put(lay, line, row))
    ]


def unlike_lays_to_try():
    for board in SMALL_BOARDS:
        for lay in unlike_lays(board):
            yield board, lay
    for board in ((12, 12), (12, 1), (1, 12), (12, 5), (5, 12), (7, 11)):
        yield board, (None,) * board[0]
        yield board, (0,) + (None,) * (board[0] - 1)
        yield board, (None,) * (board[0] - 1) + (board[1] - 1,)
    for kept in ({0, 1}, {3, 7, 11}, set(range(0, 12, 2)), set(range(8)), set(range(1, 12)), set(range(12))):
        yield (12, 12), tuple(row if line in kept else None for line, row in enumerate(POWERS))
    yield (12, 6), tuple(row if row < 6 else None for row in POWERS)
    yield (6, 12), POWERS[:6]
    yield (7, 12), POWERS[:5] + (None, None)


class MostTest(unittest.TestCase):
    def test_the_most_points(self):
        self.assertEqual(most((1, 1)), 1)
        self.assertEqual(most((3, 3)), 3)
        self.assertEqual(most((5, 2)), 2)
        self.assertEqual(most((5, 5)), 5)

    def test_the_lays_of_the_most_points(self):
        self.assertEqual(most_lays((1, 1)), [(0,)])
        self.assertEqual(most_lays((1, 3)), [(0,), (1,), (2,)])
        self.assertEqual(most_lays((3, 1)), [(None, None, 0), (None, 0, None), (0, None, None)])
        self.assertEqual(most_lays((3, 3)), [(0, 2, 1), (1, 0, 2), (1, 2, 0), (2, 0, 1)])
        self.assertEqual(most_lays((3, 2)), [
            (None, 0, 1), (None, 1, 0), (0, None, 1), (0, 1, None), (1, None, 0), (1, 0, None),
        ])

    def test_how_many_there_are(self):
        self.assertEqual([many_of((1, 1), number) for number in range(13)], [1, 1] + [0] * 11)
        self.assertEqual([many_of((2, 3), number) for number in range(13)], [1, 6, 6] + [0] * 10)
        self.assertEqual([many_of((3, 3), number) for number in range(13)], [1, 9, 18, 4] + [0] * 9)

    def test_all_boards_up_to_five(self):
        for board in BOARDS:
            lays = unlike_lays(board)
            found = max(many_points(lay) for lay in lays)
            self.assertEqual(most(board), found, board)
            self.assertEqual(most_lays(board), [lay for lay in lays if many_points(lay) == found], board)
            for number in range(13):
                many = sum(many_points(lay) == number for lay in lays)
                self.assertEqual(many_of(board, number), many, (board, number))

    def test_a_list_of_tuples(self):
        for board in BOARDS[::3]:
            self.assertIsInstance(most_lays(board), list)
            self.assertTrue(all(isinstance(lay, tuple) for lay in most_lays(board)))


class PlacesTest(unittest.TestCase):
    def test_places_for_a_point_more(self):
        self.assertEqual(places_left((2, 2), (None, None)), [(0, 0), (0, 1), (1, 0), (1, 1)])
        self.assertEqual(places_left((2, 2), (0, None)), [(1, 1)])
        self.assertEqual(places_left((3, 3), (0, None, None)), [(1, 1), (1, 2), (2, 1), (2, 2)])
        self.assertEqual(places_left((3, 3), (None, 1, None)), [(0, 0), (0, 2), (2, 0), (2, 2)])
        self.assertEqual(places_left((3, 4), (0, 1, None)), [(2, 3)])
        self.assertEqual(places_left((3, 3), (0, 1, None)), [])
        self.assertEqual(places_left((1, 1), (None,)), [(0, 0)])
        self.assertEqual(places_left((1, 1), (0,)), [])

    def test_all_places_of_a_bare_board(self):
        for board in ((12, 12), (12, 1), (1, 12), (7, 11)):
            self.assertEqual(places_left(board, (None,) * board[0]), list(product(range(board[0]), range(board[1]))))

    def test_stuck(self):
        for board, lay in (
            ((1, 1), (0,)), ((3, 3), (0, 1, None)), ((3, 3), (0, 2, 1)), ((5, 1), (None, None, 0, None, None)),
            ((2, 12), (4, 9)), ((12, 12), POWERS), ((3, 3), (0, None, 2)),
        ):
            self.assertIs(is_stuck(board, lay), True, (board, lay))

    def test_not_stuck(self):
        for board, lay in (
            ((1, 1), (None,)), ((3, 4), (0, 1, None)), ((12, 12), (None,) * 12), ((12, 12), POWERS[:11] + (None,)),
            ((12, 12), (None,) + POWERS[1:]), ((2, 2), (None, 1)),
        ):
            self.assertIs(is_stuck(board, lay), False, (board, lay))

    def test_many_lays(self):
        for board, lay in unlike_lays_to_try():
            found = plain_places(board, lay)
            self.assertEqual(places_left(board, lay), found, (board, lay))
            self.assertIs(is_stuck(board, lay), not found, (board, lay))


class RefusalTest(RefusalCase):
    def test_told_lists_are_the_askers_own(self):
        for board in BOARDS[::3]:
            self.told_anew(most_lays, board)
        self.told_anew(places_left, (3, 4), (2, None, 0))
        self.told_anew(places_left, (12, 12), (None,) * 12)
        places_left((1, 1), (0,)).append("more")
        self.assertEqual(places_left((1, 1), (0,)), [])
        self.assertIs(is_stuck((1, 1), (0,)), True)

    def test_no_board(self):
        for thing in NO_BOARDS:
            self.refused(NoBoard, most, thing)
            self.refused(NoBoard, most_lays, thing)
            for number in (0, 13, None):
                self.refused(NoBoard, many_of, thing, number)
            for lay in ((2, None, 0), (0, 1, 2), "ab"):
                self.refused(NoBoard, places_left, thing, lay)
                self.refused(NoBoard, is_stuck, thing, lay)

    def test_no_number(self):
        for thing in WRONG_NUMBERS:
            for board in ((3, 3), (1, 1), *GREAT_BOARDS):
                self.refused(NoNumber, many_of, board, thing)

    def test_too_many(self):
        for board in GREAT_BOARDS:
            self.refused(TooMany, most, board)
            self.refused(TooMany, most_lays, board)
            for number in (0, 5, 12):
                self.refused(TooMany, many_of, board, number)

    def test_no_lay(self):
        for thing in NO_LAYS:
            self.refused(NoLay, places_left, (3, 4), thing)
            self.refused(NoLay, is_stuck, (3, 4), thing)
        # Behind the wrong row like steps stand.
        for thing in ((0, 1, 2, True), (0, 1, 2, 2), (0, 1, 2, 4), [0, 1, 2, 3], (0, 1, 2)):
            self.refused(NoLay, places_left, (4, 4), thing)
            self.refused(NoLay, is_stuck, (4, 4), thing)

    def test_like_steps(self):
        for board, lay in (
            ((3, 3), (0, 1, 2)), ((4, 4), (0, 1, 2, None)), ((12, 12), tuple(range(12))), ((4, 4), (0, 2, 1, 3)),
            ((5, 5), (0, None, 2, None, 4)), ((12, 3), (2, None, None, None, 1, None, None, None, 0, None, None, None)),
        ):
            self.refused(NoUnlike, places_left, board, lay)
            self.refused(NoUnlike, is_stuck, board, lay)


if __name__ == "__main__":
    unittest.main()
