"""Boards, lays and points: promises 2, 3, 4, 5 and 11."""

import copy
import unittest
from itertools import permutations, product

from tests.things import ODD_THINGS, SMALL_BOARDS, all_lays
from unlikesteps.errors import NoBoard, NoLay, NoPoints
from unlikesteps.lays import is_board, is_full, is_lay, lay_of, points

NO_BOARDS = ODD_THINGS + [
    (0, 1), (1, 0), (13, 1), (1, 13), (-1, 5), (5, -1), (0, 0), (13, 13), (10 ** 39, 3), (3, 10 ** 39),
    (True, 3), (3, True), (True, True), (False, 3), (None, 3), (3, None), (None, None), ("3", 3), (3, "3"),
    (3, 3, 3), (3, [3]), ((3, 3), 3), ((3, 3),), (3, (3,)), [3, 3], [(3, 3)], {3: 3}, "33", (3.0, 3), {3: 3, 4: 4},
]

# Neither a row of any board nor None.
NO_ROWS = [thing for thing in ODD_THINGS if thing is not None and thing not in range(12)]
NO_ROWS += [True, False, 0.0, 12, 13, -1]


class BoardTest(unittest.TestCase):
    def test_all_sides_from_1_to_12(self):
        for board in product(range(1, 13), repeat=2):
            self.assertIs(is_board(board), True, board)

    def test_sides_beyond(self):
        for beyond in (-(10 ** 39), -12, -1, 0, 13, 14, 10 ** 39):
            for side in (1, 6, 12, beyond):
                self.assertIs(is_board((beyond, side)), False, (beyond, side))
                self.assertIs(is_board((side, beyond)), False, (side, beyond))

    def test_what_is_no_board(self):
        for thing in NO_BOARDS:
            self.assertIs(is_board(thing), False, thing)

    def test_everything_refuses_what_is_no_board(self):
        for thing in NO_BOARDS:
            for told in (is_lay, is_full, points, lay_of):
                for behind in ((None,), (None, 0, 1), [], [(0, 0)], "ab", None):
                    with self.assertRaises(NoBoard, msg=(told, thing, behind)):
                        told(thing, behind)


class LayTest(unittest.TestCase):
    def test_points_in_all_some_and_no_lines(self):
        for board, lay in (
            ((3, 4), (2, None, 0)), ((3, 4), (2, 3, 0)), ((3, 4), (None, None, None)), ((1, 1), (0,)),
            ((1, 1), (None,)), ((1, 12), (11,)), ((12, 1), (None,) * 11 + (0,)), ((12, 12), tuple(range(12))),
            ((12, 12), tuple(range(11, -1, -1))), ((4, 2), (1, None, None, 0)), ((2, 2), (0, 1)),
        ):
            self.assertIs(is_lay(board, lay), True, (board, lay))

    def test_a_row_twice(self):
        for board, lay in (
            ((2, 2), (0, 0)), ((3, 4), (2, None, 2)), ((3, 4), (3, 3, 3)), ((2, 1), (0, 0)),
            ((12, 12), tuple(range(11)) + (0,)), ((4, 4), (0, 1, 2, 1)),
        ):
            self.assertIs(is_lay(board, lay), False, (board, lay))
            self.assertIs(is_full(board, lay), False, (board, lay))

    def test_a_row_beyond_the_board(self):
        for board, lay in (
            ((1, 1), (1,)), ((1, 1), (-1,)), ((3, 4), (4, None, 0)), ((3, 4), (2, None, -1)), ((4, 3), (0, 1, 2, 3)),
            ((3, 3), (1, 2, 3)), ((3, 3), (0, 1, 10 ** 39)), ((3, 3), (0, 1, -(10 ** 39))), ((12, 12), (12,) * 12),
        ):
            self.assertIs(is_lay(board, lay), False, (board, lay))
            self.assertIs(is_full(board, lay), False, (board, lay))

    def test_too_few_and_too_many_lines(self):
        for lay in ((), (0,), (0, 1), (0, 1, 2, 3), (None,) * 2, (None,) * 4):
            self.assertIs(is_lay((3, 4), lay), False, lay)
            self.assertIs(is_full((3, 3), lay), False, lay)

    def test_what_is_no_lay(self):
        for board in ((2, 2), (3, 3), (2, 5), (12, 12)):
            for thing in ODD_THINGS:
                self.assertIs(is_lay(board, thing), False, (board, thing))
                self.assertIs(is_full(board, thing), False, (board, thing))
                with self.assertRaises(NoLay, msg=(board, thing)):
                    points(board, thing)

    def test_what_is_no_row(self):
        for thing in NO_ROWS:
            for board, lay in (((1, 12), (thing,)), ((2, 2), (None, thing)), ((3, 3), (thing, 0, 1))):
                self.assertIs(is_lay(board, lay), False, (board, lay))
                self.assertIs(is_full(board, lay), False, (board, lay))
                with self.assertRaises(NoLay, msg=(board, lay)):
                    points(board, lay)

    def test_truths_are_no_rows(self):
        for lay in ((True, 0), (1, False), (True, False), (None, True), (False, None)):
            self.assertIs(is_lay((2, 2), lay), False, lay)
            self.assertIs(is_full((2, 2), lay), False, lay)

    def test_lists_are_no_lays(self):
        for lay in ([0, 1], [None, None], {0: 0, 1: 1}, "01"):
            self.assertIs(is_lay((2, 2), lay), False, lay)
            self.assertIs(is_full((2, 2), lay), False, lay)

    def test_all_small_boards(self):
        for board in SMALL_BOARDS:
            wide, high = board
            lays = set(all_lays(board))
            for rows in product([None, *range(-1, high + 1)], repeat=wide):
                self.assertIs(is_lay(board, rows), rows in lays, (board, rows))
                full = rows in lays and sorted(str(row) for row in rows) == [str(row) for row in range(high)]
                self.assertIs(is_full(board, rows), full, (board, rows))

    def test_full_lays(self):
        for wide in range(1, 6):
            for lay in permutations(range(wide)):
                self.assertIs(is_full((wide, wide), lay), True, lay)
        self.assertIs(is_full((12, 12), tuple(range(12))), True)

    def test_lays_that_are_not_full(self):
        for board, lay in (
            ((3, 3), (0, None, 2)), ((3, 4), (0, 1, 2)), ((4, 3), (0, 1, 2, None)), ((1, 1), (None,)),
            ((1, 2), (0,)), ((2, 1), (0, None)), ((12, 12), (None,) * 12), ((12, 11), tuple(range(11)) + (None,)),
        ):
            self.assertIs(is_lay(board, lay), True, (board, lay))
            self.assertIs(is_full(board, lay), False, (board, lay))


class PointsTest(unittest.TestCase):
    def test_points(self):
        self.assertEqual(points((3, 4), (2, None, 0)), [(0, 2), (2, 0)])
        self.assertEqual(points((3, 4), (None, None, None)), [])
        self.assertEqual(points((1, 1), (0,)), [(0, 0)])
        self.assertEqual(points((3, 3), (2, 1, 0)), [(0, 2), (1, 1), (2, 0)])
        self.assertEqual(points((12, 12), tuple(range(11, -1, -1))), [(k, 11 - k) for k in range(12)])

    def test_points_and_back_again(self):
        for board in SMALL_BOARDS:
            for lay in all_lays(board):
                told = points(board, lay)
                self.assertEqual(told, [(k, lay[k]) for k in range(board[0]) if lay[k] is not None])
                self.assertEqual(lay_of(board, told), lay)
                self.assertEqual(lay_of(board, told[::-1]), lay)

    def test_points_in_any_order(self):
        for order in permutations([(0, 3), (2, 0), (3, 4), (4, 1)]):
            self.assertEqual(lay_of((5, 5), list(order)), (3, None, 0, 4, 1))

    def test_lay_of(self):
        self.assertEqual(lay_of((3, 4), []), (None, None, None))
        self.assertEqual(lay_of((3, 4), [(2, 3)]), (None, None, 3))
        self.assertEqual(lay_of((1, 1), [(0, 0)]), (0,))
        self.assertEqual(lay_of((12, 12), [(11, 0), (0, 11)]), (11,) + (None,) * 10 + (0,))
        self.assertIsInstance(lay_of((3, 4), [(2, 3)]), tuple)

    def test_no_points_for_points_that_clash(self):
        for given in (
            [(0, 0), (0, 0)], [(1, 2), (0, 0), (1, 2)], [(0, 0), (0, 1)], [(2, 3), (1, 0), (2, 1)],
            [(0, 0), (1, 0)], [(0, 3), (1, 1), (2, 3)],
        ):
            with self.assertRaises(NoPoints, msg=given):
                lay_of((3, 4), given)

    def test_no_points_for_a_point_beyond_the_board(self):
        for point in (
            (3, 0), (0, 4), (3, 4), (-1, 0), (0, -1), (-1, -1), (10 ** 39, 0), (0, 10 ** 39), (0, -(10 ** 39)),
        ):
            for given in ([point], [(1, 1), point], [point, (1, 1)]):
                with self.assertRaises(NoPoints, msg=given):
                    lay_of((3, 4), given)
        self.assertEqual(lay_of((4, 3), [(3, 0)]), (None, None, None, 0))

    def test_no_points_for_what_is_no_list_of_points(self):
        for thing in ODD_THINGS:
            with self.assertRaises(NoPoints, msg=thing):
                lay_of((3, 4), thing)
        for thing in (
            (), ((0, 0),), ((0, 0), (1, 1)), {(0, 0): (1, 1)}, (0, 0), "00", None, {(0, 0)},
        ):
            with self.assertRaises(NoPoints, msg=thing):
                lay_of((3, 4), thing)

    def test_no_points_for_what_is_no_point(self):
        for thing in ODD_THINGS + [
            [0, 0], (0,), (0, 0, 0), (True, 0), (0, True), (False, 0), (0, False), (None, 0), (0, None),
            ("0", 0), (0, "0"), ((0, 0), 0), ((0, 0),), (0, [0]), ([0], 0), {0: 0, 1: 1}, "00", (0.0, 0),
        ]:
            for given in ([thing], [(1, 1), thing], [thing, (1, 1)]):
                with self.assertRaises(NoPoints, msg=given):
                    lay_of((3, 4), given)


class KeptTest(unittest.TestCase):
    def test_what_is_handed_in_stays_as_it_was(self):
        for given in ([(2, 0), (0, 3), (1, 1)], [], [(0, 0), (0, 0)], [(1, 1), [0, 0]], [(5, 5)]):
            before = copy.deepcopy(given)
            try:
                lay_of((3, 4), given)
            except NoPoints:
                pass
            self.assertEqual(given, before)
        for thing in ([0, 1], {0: [1]}, ([0], [1])):
            before = copy.deepcopy(thing)
            is_board(thing)
            is_lay((2, 2), thing)
            is_full((2, 2), thing)
            self.assertEqual(thing, before)

    def test_what_is_told_is_the_askers_own(self):
        told = points((3, 4), (2, None, 0))
        told.append((1, 1))
        told[0] = None
        self.assertEqual(points((3, 4), (2, None, 0)), [(0, 2), (2, 0)])
        points((3, 4), (None, None, None)).append(5)
        self.assertEqual(points((3, 4), (None, None, None)), [])

    def test_a_list_changed_later_changes_nothing(self):
        given = [(0, 2), (2, 0)]
        told = lay_of((3, 4), given)
        given.clear()
        self.assertEqual(told, (2, None, 0))
        self.assertEqual(lay_of((3, 4), [(0, 2), (2, 0)]), (2, None, 0))


class OrderTest(unittest.TestCase):
    def test_the_board_goes_first(self):
        for told in (points, lay_of):
            for behind in (None, "ab", [0], (5, 5, 5), [(9, 9)]):
                with self.assertRaises(NoBoard):
                    told((0, 3), behind)

    def test_the_board_is_refused_by_questions_too(self):
        for told in (is_lay, is_full):
            with self.assertRaises(NoBoard):
                told([3, 3], (0, 1, 2))
            with self.assertRaises(NoBoard):
                told((13, 13), "ab")

    def test_lay_and_points_go_behind_the_board(self):
        with self.assertRaises(NoLay):
            points((3, 3), (0, 1, 3))
        with self.assertRaises(NoPoints):
            lay_of((3, 3), [(0, 3)])


if __name__ == "__main__":
    unittest.main()
