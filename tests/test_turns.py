"""Turns of boards and lays: promises 2, 4, 5, 6, 81, 82 and 83."""

import unittest
from itertools import permutations, product

from tests.things import (
    LONG_NUMBERS, NO_BOARDS, NO_LAYS, NO_NUMBERS, ODD_THINGS, POWERS, SMALL_BOARDS, WIDE_LAY, RefusalCase, all_lays,
    like_tuples, none_least, whole_unlike_lays,
)
from unlikesteps.errors import NoBoard, NoLay, NoNumber, NoTurn
from unlikesteps.turns import kinds, kinds_many, least_turned, own_turns, turned, turned_board, turns_together

TURNS = list(product((0, 1), repeat=3))
NO_TURNS = ODD_THINGS + [
    [0, 0, 0], [1, 0, 1], (0, 0), (1, 1), (0, 0, 0, 0), (1, 0, 0, 1), (True, 0, 0), (0, True, 0), (0, 0, True),
    (False, 0, 0), (0, False, 1), (1, 1, False), (True, True, True), (2, 0, 0), (0, 2, 0), (0, 0, 2), (-1, 0, 0),
    (0, -1, 0), (0, 0, -1), (None, 0, 0), (0, None, 0), (0, 0, None), ("0", 0, 0), (0, 0, "1"), (0, 1, [0]),
    ((0,), 0, 0), (1, {}, 0), (10 ** 39, 0, 0), (1.0, 0, 0), "000", (0, 0, 1.0), {0: 0, 1: 0, 2: 0},
]


def turned_over(board, lay):
    """Lines and rows exchanged, by a look at each place."""
    wide, high = board
    rows = []
    for row in range(high):
        lines = [line for line in range(wide) if lay[line] == row]
        rows.append(lines[0] if lines else None)
    return (high, wide), tuple(rows)


def plain_turned(board, lay, turn):
    """The board and the lay that come, one of the turn's three parts behind another."""
    over, lines, rows = turn
    if lines:
        lay = lay[::-1]
    if rows:
        lay = tuple(None if row is None else board[1] - 1 - row for row in lay)
    return turned_over(board, lay) if over else (board, lay)


def lays_to_try():
    for board in SMALL_BOARDS:
        for lay in all_lays(board):
            yield board, lay
    yield WIDE_LAY
    for board in ((12, 12), (12, 1), (1, 12), (12, 5), (5, 12)):
        yield board, (None,) * board[0]
        yield board, (0,) + (None,) * (board[0] - 1)
    yield (12, 12), POWERS
    yield (12, 12), tuple(range(12))
    yield (5, 12), POWERS[:5]
    yield (12, 6), tuple(row if row < 6 else None for row in POWERS)


class TurnedTest(RefusalCase):
    def test_boards(self):
        for board in (*SMALL_BOARDS, (12, 5), (1, 12), (12, 12)):
            for over, lines, rows in TURNS:
                expected = board[::-1] if over else board
                self.assertEqual(turned_board(board, (over, lines, rows)), expected)

    def test_each_turn(self):
        board, lay = (3, 4), (3, None, 0)
        self.assertEqual(turned(board, lay, (0, 0, 0)), (3, None, 0))
        self.assertEqual(turned(board, lay, (0, 0, 1)), (0, None, 3))
        self.assertEqual(turned(board, lay, (0, 1, 0)), (0, None, 3))
        self.assertEqual(turned(board, lay, (0, 1, 1)), (3, None, 0))
        self.assertEqual(turned(board, lay, (1, 0, 0)), (2, None, None, 0))
        self.assertEqual(turned(board, lay, (1, 0, 1)), (0, None, None, 2))
        self.assertEqual(turned(board, lay, (1, 1, 0)), (0, None, None, 2))
        self.assertEqual(turned(board, lay, (1, 1, 1)), (2, None, None, 0))

    def test_each_turn_of_a_lay_that_none_leads_to_itself(self):
        board, lay = (3, 4), (1, 0, None)
        self.assertEqual(turned(board, lay, (0, 0, 1)), (2, 3, None))
        self.assertEqual(turned(board, lay, (0, 1, 0)), (None, 0, 1))
        self.assertEqual(turned(board, lay, (0, 1, 1)), (None, 3, 2))
        self.assertEqual(turned(board, lay, (1, 0, 0)), (1, 0, None, None))
        self.assertEqual(turned(board, lay, (1, 0, 1)), (None, None, 0, 1))
        self.assertEqual(turned(board, lay, (1, 1, 0)), (1, 2, None, None))
        self.assertEqual(turned(board, lay, (1, 1, 1)), (None, None, 2, 1))

    def test_single_lines_rows_and_places(self):
        self.assertEqual(turned((1, 1), (0,), (1, 1, 1)), (0,))
        self.assertEqual(turned((1, 1), (None,), (1, 0, 0)), (None,))
        self.assertEqual(turned((1, 3), (0,), (1, 0, 1)), (None, None, 0))
        self.assertEqual(turned((3, 1), (None, None, 0), (1, 0, 0)), (2,))
        self.assertEqual(turned((3, 1), (None, None, 0), (1, 1, 0)), (0,))

    def test_many_lays(self):
        for board, lay in lays_to_try():
            for turn in TURNS:
                told = turned(board, lay, turn)
                self.assertEqual((turned_board(board, turn), told), plain_turned(board, lay, turn), (board, lay, turn))
                self.assertEqual(not like_tuples(told), not like_tuples(lay), (board, lay, turn))

    def test_no_board(self):
        for thing in NO_BOARDS:
            for turn in ((0, 0, 0), [0, 0, 0], None):
                self.refused(NoBoard, turned_board, thing, turn)
                for lay in ((2, None, 0), "ab", None):
                    self.refused(NoBoard, turned, thing, lay, turn)

    def test_no_lay(self):
        for thing in NO_LAYS:
            for turn in ((0, 0, 0), [0, 0, 0], None):
                self.refused(NoLay, turned, (3, 4), thing, turn)

    def test_no_turn(self):
        for thing in NO_TURNS:
            for board, lay in (((3, 4), (2, None, 0)), ((1, 1), (None,)), ((12, 12), POWERS)):
                self.refused(NoTurn, turned_board, board, thing)
                self.refused(NoTurn, turned, board, lay, thing)


class LeastTest(RefusalCase):
    def test_none_is_less_than_a_number(self):
        self.assertEqual(least_turned((2, 2), (0, None)), ((2, 2), (None, 0)))
        self.assertEqual(least_turned((2, 2), (1, 0)), ((2, 2), (0, 1)))
        self.assertEqual(least_turned((3, 3), (0, 1, None)), ((3, 3), (None, 1, 0)))
        self.assertEqual(least_turned((2, 2), (None, None)), ((2, 2), (None, None)))

    def test_the_board_goes_ahead(self):
        self.assertEqual(least_turned((3, 2), (None, None, 1)), ((2, 3), (None, 0)))
        self.assertEqual(least_turned((2, 3), (2, None)), ((2, 3), (None, 0)))
        self.assertEqual(least_turned((12, 1), (None,) * 12), ((1, 12), (None,)))
        self.assertEqual(least_turned((12, 1), (None,) * 11 + (0,)), ((1, 12), (0,)))
        self.assertEqual(least_turned((1, 12), (7,)), ((1, 12), (4,)))

    def test_many_lays(self):
        for board, lay in lays_to_try():
            found = [plain_turned(board, lay, turn) for turn in TURNS]
            found = sorted(found, key=lambda led: (led[0], none_least(led[1])))
            told = least_turned(board, lay)
            self.assertEqual(told, found[0], (board, lay))
            self.assertIsInstance(told, tuple)
            self.assertEqual({least_turned(*led) for led in found}, {told})

    def test_refusals(self):
        for told in (least_turned, own_turns):
            for thing in NO_BOARDS:
                for lay in ((2, None, 0), "ab", None):
                    self.refused(NoBoard, told, thing, lay)
            for thing in NO_LAYS:
                self.refused(NoLay, told, (3, 4), thing)


class OwnTurnsTest(RefusalCase):
    def test_some_lays(self):
        self.assertEqual(own_turns((1, 1), (0,)), TURNS)
        self.assertEqual(own_turns((3, 3), (None,) * 3), TURNS)
        self.assertEqual(own_turns((3, 4), (None,) * 3), TURNS[:4])
        self.assertEqual(own_turns((3, 4), (1, 0, None)), [(0, 0, 0)])
        self.assertEqual(own_turns((3, 4), (3, None, 0)), [(0, 0, 0), (0, 1, 1)])
        self.assertEqual(own_turns((2, 2), (0, 1)), [(0, 0, 0), (0, 1, 1), (1, 0, 0), (1, 1, 1)])
        self.assertEqual(own_turns((4, 4), (1, 3, 0, 2)), [(0, 0, 0), (0, 1, 1), (1, 0, 1), (1, 1, 0)])
        self.assertEqual(own_turns((5, 3), (None, None, 0, None, None)), [(0, 0, 0), (0, 1, 0)])
        self.assertEqual(own_turns((12, 12), POWERS), [(0, 0, 0)])

    def test_many_lays(self):
        for board, lay in lays_to_try():
            found = [turn for turn in TURNS if plain_turned(board, lay, turn) == (board, lay)]
            self.assertEqual(own_turns(board, lay), found, (board, lay))

    def test_told_lists_are_the_askers_own(self):
        self.told_anew(own_turns, (1, 1), (0,))
        self.told_anew(own_turns, (3, 4), (1, 0, None))


class TogetherTest(RefusalCase):
    def test_what_becomes_of_every_point(self):
        board = (3, 5)
        for turn, other in product(TURNS, TURNS):
            both = turns_together(turn, other)
            self.assertIn(both, TURNS)
            self.assertTrue(all(part.__class__ is int for part in both))
            between = turned_board(board, turn)
            self.assertEqual(turned_board(board, both), turned_board(between, other))
            for line, row in product(range(3), range(5)):
                lay = tuple(row if at == line else None for at in range(3))
                by_steps = plain_turned(*plain_turned(board, lay, turn), other)
                self.assertEqual(plain_turned(board, lay, both), by_steps, (turn, other, lay))

    def test_lays(self):
        for board, lay in (WIDE_LAY, ((12, 12), POWERS), ((3, 4), (1, 0, None))):
            for turn, other in product(TURNS, TURNS):
                by_steps = turned(turned_board(board, turn), turned(board, lay, turn), other)
                self.assertEqual(turned(board, lay, turns_together(turn, other)), by_steps)

    def test_the_first_goes_first(self):
        self.assertEqual(turns_together((1, 0, 0), (0, 1, 0)), (1, 0, 1))
        self.assertEqual(turns_together((0, 1, 0), (1, 0, 0)), (1, 1, 0))
        self.assertEqual(turns_together((1, 0, 1), (1, 0, 1)), (0, 1, 1))
        self.assertEqual(turns_together((0, 1, 1), (0, 1, 0)), (0, 0, 1))

    def test_no_turn(self):
        for thing in NO_TURNS:
            for turn in TURNS:
                self.refused(NoTurn, turns_together, thing, turn)
                self.refused(NoTurn, turns_together, turn, thing)
            self.refused(NoTurn, turns_together, thing, thing)


class KindsTest(RefusalCase):
    def test_some_kinds(self):
        self.assertEqual((kinds(1), kinds_many(1)), ([(0,)], [1]))
        self.assertEqual((kinds(2), kinds_many(2)), ([(0, 1)], [2]))
        self.assertEqual((kinds(3), kinds_many(3)), ([(0, 2, 1)], [4]))
        self.assertEqual((kinds(4), kinds_many(4)), ([(0, 1, 3, 2), (0, 2, 3, 1)], [4, 8]))

    def test_all_unlike_full_lays(self):
        for number in range(1, 6):
            board = (number, number)
            many_by_least = {}
            for lay in permutations(range(number)):
                if not like_tuples(lay):
                    least = min(plain_turned(board, lay, turn)[1] for turn in TURNS)
                    many_by_least[least] = many_by_least.get(least, 0) + 1
            self.assertEqual(kinds(number), sorted(many_by_least))
            self.assertEqual(kinds_many(number), [many_by_least[least] for least in sorted(many_by_least)])
            self.assertEqual(sum(kinds_many(number)), len(whole_unlike_lays(board)))

    def test_told_lists_are_the_askers_own(self):
        for number in range(1, 6):
            self.told_anew(kinds, number)
            self.told_anew(kinds_many, number)

    def test_no_number(self):
        for thing in NO_NUMBERS + LONG_NUMBERS + [0, 6, 7, 12, -1, -5, (3, 3), "3"]:
            self.refused(NoNumber, kinds, thing)
            self.refused(NoNumber, kinds_many, thing)


if __name__ == "__main__":
    unittest.main()
