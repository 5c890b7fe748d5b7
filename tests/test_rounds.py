"""Full lays that are unlike all round, and such that are led round: promises 2, 4, 5, 91 and 92."""

import unittest
from itertools import permutations

from tests.things import LONG_NUMBERS, NO_BOARDS, NO_LAYS, NO_NUMBERS, POWERS, RefusalCase
from unlikesteps.errors import NoBoard, NoLay, NoNumber
from unlikesteps.powers import by_powers, by_two, roots
from unlikesteps.rounds import is_round, led_round, round_steps

PRIMES = (2, 3, 5, 7, 11, 13)

# Lays, but none of them full.
NOT_FULL = [
    ((3, 4), (2, None, 0)), ((3, 4), (0, 1, 2)), ((4, 3), (0, 1, 2, None)), ((3, 3), (0, None, 1)),
    ((3, 3), (None,) * 3), ((1, 1), (None,)), ((1, 2), (0,)), ((2, 1), (0, None)), ((12, 12), POWERS[:11] + (None,)),
    ((11, 12), POWERS[:11]), ((1, 12), (11,)), ((12, 12), (None,) + POWERS[1:]),
]


def exchanged(lay, line, other):
    """The lay with the points of two lines exchanged."""
    rows = list(lay)
    rows[line], rows[other] = rows[other], rows[line]
    return tuple(rows)


def full_lays():
    for wide in range(1, 6):
        yield from permutations(range(wide))
    for wide in range(6, 13):
        yield tuple(range(wide))
        yield tuple(range(wide - 1, -1, -1))
        yield tuple(range(0, wide, 2)) + tuple(range(1, wide, 2))
    for prime in PRIMES:
        for root in roots(prime):
            yield by_powers(prime, root, 0)
            yield by_powers(prime, root, 3)
            if prime > 2:
                yield by_two(prime, root, roots(prime)[0])
    for line in range(1, 12):
        yield exchanged(POWERS, 0, line)
        yield exchanged(POWERS, line, (5 * line + 4) % 12)


def counted_from(start, end, many):
    """How many times one is added, and round again at so many, till the end is come to."""
    times = 0
    while start != end:
        start = 0 if start == many - 1 else start + 1
        times += 1
    return times


def plain_round_steps(lay):
    """Each round step as often as it comes, by counting on."""
    many = len(lay)
    found = []
    for line in range(many):
        for other in range(many):
            if line != other:
                found.append((counted_from(line, other, many), counted_from(lay[line], lay[other], many + 1)))
    return sorted(found)


def board_of(lay):
    return (len(lay), len(lay))


class RoundStepsTest(RefusalCase):
    def test_some_lays(self):
        self.assertEqual(round_steps((1, 1), (0,)), [])
        self.assertEqual(round_steps((2, 2), (0, 1)), [(1, 1), (1, 2)])
        self.assertEqual(round_steps((2, 2), (1, 0)), [(1, 1), (1, 2)])
        self.assertEqual(round_steps((3, 3), (0, 1, 2)), [(1, 1), (1, 1), (1, 2), (2, 2), (2, 3), (2, 3)])
        self.assertEqual(round_steps((3, 3), (0, 2, 1)), [(1, 2), (1, 3), (1, 3), (2, 1), (2, 1), (2, 2)])

    def test_many_lays(self):
        for lay in full_lays():
            self.assertEqual(round_steps(board_of(lay), lay), plain_round_steps(lay), lay)

    def test_told_lists_are_the_askers_own(self):
        self.told_anew(round_steps, (3, 3), (0, 2, 1))
        self.told_anew(round_steps, (12, 12), POWERS)
        round_steps((1, 1), (0,)).append("more")
        self.assertEqual(round_steps((1, 1), (0,)), [])

    def test_no_board(self):
        for thing in NO_BOARDS:
            for lay in ((0, 2, 1), (2, None, 0), "ab"):
                self.refused(NoBoard, round_steps, thing, lay)
                self.refused(NoBoard, is_round, thing, lay)
                for number in (0, 12, None):
                    self.refused(NoBoard, led_round, thing, lay, number)

    def test_no_full_lay(self):
        wrongs = NOT_FULL + [((3, 4), thing) for thing in NO_LAYS]
        wrongs += [((3, 3), thing) for thing in ((0, 2, True), (0, 2, 2), [0, 2, 1], (0, 2), (0, 1, 3), (0, 1, 2, 3))]
        for board, thing in wrongs:
            self.refused(NoLay, round_steps, board, thing)
            self.refused(NoLay, is_round, board, thing)
            for number in (0, 12, None):
                self.refused(NoLay, led_round, board, thing, number)


class RoundTest(unittest.TestCase):
    def test_lays_by_powers_are_round(self):
        for prime in PRIMES:
            for root in roots(prime):
                for number in range(prime):
                    lay = by_powers(prime, root, number)
                    self.assertIs(is_round(board_of(lay), lay), True, lay)

    def test_lays_that_are_not(self):
        for lay in ((0, 1, 2), (0, 2, 1), tuple(range(12)), (0, 1, 2, 3), (1, 0, 2), exchanged(POWERS, 0, 1)):
            self.assertIs(is_round(board_of(lay), lay), False, lay)

    def test_many_lays(self):
        for lay in full_lays():
            found = plain_round_steps(lay)
            same = any(found.count(step) > 1 for step in found)
            self.assertIs(is_round(board_of(lay), lay), not same, lay)


class LedRoundTest(RefusalCase):
    def test_some_lays(self):
        self.assertEqual(led_round((1, 1), (0,), 0), (0,))
        self.assertEqual(led_round((3, 3), (0, 2, 1), 0), (0, 2, 1))
        self.assertEqual(led_round((3, 3), (0, 2, 1), 1), (1, 0, 2))
        self.assertEqual(led_round((3, 3), (0, 2, 1), 2), (2, 1, 0))
        self.assertEqual(led_round((12, 12), POWERS, 11), POWERS[1:] + POWERS[:1])

    def test_many_lays(self):
        for lay in full_lays():
            wide = len(lay)
            for by in range(wide):
                told = led_round(board_of(lay), lay, by)
                found = {(line + by) % wide: row for line, row in enumerate(lay)}
                self.assertEqual(told, tuple(found[line] for line in range(wide)), (lay, by))
                self.assertIs(is_round(board_of(lay), told), is_round(board_of(lay), lay), (lay, by))

    def test_lays_by_powers_stay_such(self):
        for prime in PRIMES:
            for root in roots(prime):
                lays = [by_powers(prime, root, number) for number in range(prime - 1)]
                for number, lay in enumerate(lays):
                    for by in range(prime - 1):
                        told = led_round(board_of(lay), lay, by)
                        self.assertEqual(told, lays[(number - by) % (prime - 1)], (prime, root, number, by))

    def test_no_number(self):
        for lay in ((0,), (0, 1), (0, 2, 1), (0, 1, 2), POWERS):
            for thing in NO_NUMBERS + LONG_NUMBERS + [-1, len(lay), len(lay) + 1, -len(lay)]:
                self.refused(NoNumber, led_round, board_of(lay), lay, thing)


if __name__ == "__main__":
    unittest.main()
