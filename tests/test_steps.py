"""The steps of a lay: promises 4, 5, 6, 12 and 13."""

import unittest

from tests.things import NO_BOARDS, NO_LAYS, WIDE_LAY, like_tuples, pairs_of, some_lays
from unlikesteps.errors import NoBoard, NoLay
from unlikesteps.steps import first_like, is_unlike, steps, ups

TOLD = (steps, is_unlike, first_like, ups)


class StepsTest(unittest.TestCase):
    def test_steps_of_an_unlike_lay(self):
        self.assertEqual(steps((3, 3), (0, 2, 1)), [((1, -1), 1, 2), ((1, 2), 0, 1), ((2, 1), 0, 2)])
        self.assertEqual(steps((3, 4), (2, None, 0)), [((2, -2), 0, 2)])
        self.assertEqual(steps(*WIDE_LAY), [((1, 3), 2, 3), ((2, -6), 0, 2), ((3, -3), 0, 3)])

    def test_steps_of_a_lay_with_like_steps(self):
        self.assertEqual(steps((3, 3), (0, 1, 2)), [((1, 1), 0, 1), ((1, 1), 1, 2), ((2, 2), 0, 2)])

    def test_steps_of_no_point_and_of_one(self):
        for board, lay in (((1, 1), (None,)), ((1, 1), (0,)), ((3, 4), (None,) * 3), ((3, 4), (None, 3, None))):
            self.assertEqual(steps(board, lay), [])
            self.assertIs(is_unlike(board, lay), True)
            self.assertIsNone(first_like(board, lay))

    def test_steps_of_many_lays(self):
        for board, lay in some_lays():
            told = steps(board, lay)
            self.assertEqual(told, sorted(pairs_of(lay)), (board, lay))
            self.assertTrue(all(one < other for one, other in zip(told, told[1:])), (board, lay))


class LikeTest(unittest.TestCase):
    def test_unlike_lays(self):
        for board, lay in (
            ((2, 2), (0, 1)), ((3, 3), (0, 2, 1)), ((4, 4), (0, 1, 3, 2)), ((4, 4), (0, None, None, 1)),
            ((6, 6), (0, 2, 1, 5, 3, 4)), ((10, 10), (0, 1, 3, 7, 4, 9, 8, 6, 2, 5)), ((3, 4), (0, None, 1)),
            ((10, 12), (0, 1, 3, 7, 4, 9, 8, 6, 2, 5)), WIDE_LAY,
        ):
            self.assertIs(is_unlike(board, lay), True, (board, lay))
            self.assertIsNone(first_like(board, lay), (board, lay))

    def test_lays_with_like_steps(self):
        for board, lay, first in (
            ((3, 3), (0, 1, 2), (0, 1, 1, 2)),
            ((3, 3), (2, 1, 0), (0, 1, 1, 2)),
            ((5, 5), (0, None, 2, None, 4), (0, 2, 2, 4)),
            ((4, 4), (1, 0, 3, 2), (0, 1, 2, 3)),
            ((4, 4), (2, 0, 3, 1), (0, 1, 2, 3)),
            ((4, 4), (0, 2, 1, 3), (0, 1, 2, 3)),
            ((4, 4), (1, 3, 0, 2), (0, 1, 2, 3)),
        ):
            self.assertIs(is_unlike(board, lay), False, (board, lay))
            self.assertEqual(first_like(board, lay), first, (board, lay))

    def test_the_least_tuple_is_told_not_the_least_step(self):
        # The step (1, -1) of the lines 1, 2 and 2, 3 is less than (1, 3), but its lines are greater.
        self.assertEqual(first_like((5, 5), (0, 3, 2, 1, 4)), (0, 1, 3, 4))
        self.assertEqual(first_like((6, 6), (0, 1, 4, 2, 5, 3)), (1, 2, 3, 4))

    def test_the_nearest_of_many_like_steps(self):
        self.assertEqual(first_like((12, 12), tuple(range(12))), (0, 1, 1, 2))
        self.assertEqual(first_like((12, 12), tuple(range(11, -1, -1))), (0, 1, 1, 2))

    def test_many_lays(self):
        for board, lay in some_lays():
            likes = like_tuples(lay)
            self.assertEqual(first_like(board, lay), min(likes, default=None), (board, lay))
            self.assertIs(is_unlike(board, lay), not likes, (board, lay))


class UpsTest(unittest.TestCase):
    def test_ups_by_the_lines_where_they_begin(self):
        self.assertEqual(ups((3, 3), (0, 2, 1)), [[2, -1], [1], []])
        self.assertEqual(ups((4, 4), (3, 0, 2, 1)), [[-3, 2, -1], [-1, 1], [-2], []])
        self.assertEqual(ups((3, 3), (0, 1, 2)), [[1, 1], [2], []])

    def test_lines_without_points_between(self):
        self.assertEqual(ups(*WIDE_LAY), [[3], [-6], [-3], [], []])
        self.assertEqual(ups((3, 4), (2, None, 0)), [[], [-2], []])
        self.assertEqual(ups((3, 4), (None, None, None)), [[], [], []])
        self.assertEqual(ups((3, 4), (None, 3, None)), [[], [], []])

    def test_boards_one_wide(self):
        self.assertEqual(ups((1, 1), (0,)), [[]])
        self.assertEqual(ups((1, 1), (None,)), [[]])
        self.assertEqual(ups((1, 12), (11,)), [[]])

    def test_many_lays(self):
        for board, lay in some_lays():
            told = ups(board, lay)
            wide = board[0]
            self.assertEqual(len(told), wide)
            self.assertEqual(told[-1], [])
            for place in range(wide):
                self.assertEqual(told[place], [
                    lay[line + place + 1] - lay[line] for line in range(wide - place - 1)
                    if lay[line] is not None and lay[line + place + 1] is not None
                ], (board, lay, place))
            twice = any(len(set(numbers)) < len(numbers) for numbers in told)
            self.assertIs(is_unlike(board, lay), not twice, (board, lay))


class KeptTest(unittest.TestCase):
    def test_a_told_list_of_steps_is_the_askers_own(self):
        told = steps((3, 3), (0, 2, 1))
        told.append(5)
        told[0] = None
        self.assertEqual(steps((3, 3), (0, 2, 1)), [((1, -1), 1, 2), ((1, 2), 0, 1), ((2, 1), 0, 2)])
        steps((1, 1), (0,)).append(5)
        self.assertEqual(steps((1, 1), (0,)), [])

    def test_told_lists_of_ups_are_the_askers_own(self):
        told = ups((3, 3), (0, 2, 1))
        for numbers in told:
            numbers.append(99)
        self.assertEqual(told, [[2, -1, 99], [1, 99], [99]])
        told.append([7])
        told[0] = None
        self.assertEqual(ups((3, 3), (0, 2, 1)), [[2, -1], [1], []])

    def test_lists_within_are_not_one_another(self):
        told = ups((4, 4), (None,) * 4)
        told[0].append(1)
        self.assertEqual(told, [[1], [], [], []])
        self.assertEqual(ups((4, 4), (None,) * 4), [[], [], [], []])


class RefusalTest(unittest.TestCase):
    def test_no_board(self):
        for thing in NO_BOARDS:
            for lay in ((0, 2, 1), (None,) * 3, "ab", None, [0, 2, 1]):
                for told in TOLD:
                    with self.assertRaises(NoBoard, msg=(told, thing, lay)):
                        told(thing, lay)

    def test_no_lay(self):
        for thing in NO_LAYS:
            for told in TOLD:
                with self.assertRaises(NoLay, msg=(told, thing)):
                    told((3, 4), thing)


if __name__ == "__main__":
    unittest.main()
