"""The first refusal that is due where several are, of every function: promise 5."""

import unittest
from itertools import product

from tests.test_interface import INTERFACE
from tests.things import RefusalCase
from unlikesteps import corners, fits, hits, lays, most, papers, powers, rounds, steps, texts, turns
from unlikesteps.desk import Desk
from unlikesteps.errors import (
    NoBoard, NoDeed, NoLay, NoLine, NoNumber, NoPaper, NoPoint, NoPoints, NoPrime, NoRoot, NoText, NoTurn, NoUnlike,
    TooFew, TooMany,
)

LONG = 10 ** 39

BOARDS = (NoBoard, [(0, 4), (3, 13), (True, 4), (3, False), [3, 4], (3, 4, 5), None, True, "3x4", {}, LONG])
LAYS = (NoLay, [(0, 1) * 8, (99,) * 3, (True, None, None), (0, 0, None), (None, -1, 2), [0, 1, 2], None, True, "a", {}])
WHOLES = (NoNumber, [None, True, False, "1", 1.0, (1,), [], {}])
NUMBERS = (NoNumber, WHOLES[1] + [-1, 13, LONG, -LONG])
CORNERS = (NoNumber, WHOLES[1] + [-1, 4, LONG, -LONG])
KINDS = (NoNumber, WHOLES[1] + [0, -1, 6, LONG, -LONG])
ROUNDS = (NoNumber, WHOLES[1] + [-1, 3, LONG, -LONG])
FROM_NOUGHT = (NoNumber, WHOLES[1] + [-1, -LONG])
POINTS = (NoPoints, [[(0, 0), (0, 1)], [(True, 0)], [(0, False)], [(12, 12)], ((0, 0),), None, True, "a", {}])
PAPERS = (NoPaper, [("shut", True), ("like", 0, 1, True, 2), ["shut", 1], ("shut", 99), (), None, True, "shut", LONG])
PRIMES = (NoPrime, [0, 1, 4, 9, 14, 17, -2, True, False, None, "3", [3], (3,), 3.0, LONG])
PRIMES_FROM_3 = (NoPrime, PRIMES[1] + [2])
ROOTS = (NoRoot, [0, 1, 4, 6, 7, 8, 10, -4, True, False, None, "3", [3], (3,), 3.0, LONG])
TURNS = (NoTurn, [[0, 0, 1], (0, 0), (0, 0, 0, 0), (True, 0, 0), (0, 2, 0), (0, 0, -1), (0, None, 0), None, True, "a"])
FULLS = (NoLay, LAYS[1] + [(0, None, 1), (None, None, None)])
TEXTS = (NoText, ["3x4: 2 . 2", "3x4: 2 . 04", "3x4: 2 .", "", None, True, 34, LONG, [], (), {}])
LINES = (NoLine, ["put 00 0", "board 13 1", "back ", "", None, True, 34, LONG, [], (), {}])

LAY = ((3, 4), (2, None, 0))
FULL = ((3, 3), (0, 2, 1))
LIKE = ((3, 4), (0, 1, 2))
SHUT = ((3, 3), (0, 1, None))
WIDE = ((12, 3), (0, 1) + (None,) * 10)
WIDE_LIKE = ((12, 3), (0, 1, 2) + (None,) * 9)
HIGH = ((3, 12), (0, 1, 11))

# Each function, its arguments, what is refused in the stead of each of them, and what it is
# refused with when each argument by itself is let: None where it is answered.
ASKED = [
    (lays.is_lay, LAY, (BOARDS,), None),
    (lays.is_full, LAY, (BOARDS,), None),
    (lays.points, LAY, (BOARDS, LAYS), None),
    (lays.lay_of, ((3, 4), [(0, 2)]), (BOARDS, POINTS), None),
    (steps.steps, LAY, (BOARDS, LAYS), None),
    (steps.is_unlike, LAY, (BOARDS, LAYS), None),
    (steps.first_like, LAY, (BOARDS, LAYS), None),
    (steps.ups, LAY, (BOARDS, LAYS), None),
    (hits.hits, LAY + (1, -1), (BOARDS, LAYS, WHOLES, WHOLES), None),
    (hits.all_hits, LAY, (BOARDS, LAYS), None),
    (hits.hits_between, LAY + (LAY[1], 1, -1), (BOARDS, LAYS, LAYS, WHOLES, WHOLES), None),
    (hits.most_hits, LAY + (LAY[1],), (BOARDS, LAYS, LAYS), None),
    (hits.like_many, LAY, (BOARDS, LAYS), None),
    (papers.is_paper, SHUT + (("shut", 2),), (BOARDS, LAYS), None),
    (papers.paper_for, SHUT, (BOARDS, LAYS), None),
    (papers.paper_for, WIDE, (BOARDS, LAYS), TooMany),
    (papers.ends_many, SHUT + (("shut", 2),), (BOARDS, LAYS, PAPERS), None),
    (papers.ends_many, WIDE_LIKE + (("shut", 3),), (BOARDS, LAYS, PAPERS), None),
    (most.most, LAY[:1], (BOARDS,), None),
    (most.most, HIGH[:1], (BOARDS,), TooMany),
    (most.most_lays, LAY[:1], (BOARDS,), None),
    (most.most_lays, HIGH[:1], (BOARDS,), TooMany),
    (most.many_of, ((3, 4), 12), (BOARDS, NUMBERS), None),
    (most.many_of, ((6, 4), 0), (BOARDS, NUMBERS), TooMany),
    (most.many_of, ((12, 12), 12), (BOARDS, NUMBERS), TooMany),
    (most.places_left, LAY, (BOARDS, LAYS), None),
    (most.places_left, LIKE, (BOARDS, LAYS), NoUnlike),
    (most.is_stuck, LAY, (BOARDS, LAYS), None),
    (most.is_stuck, WIDE_LIKE, (BOARDS, LAYS), NoUnlike),
    (powers.roots, (13,), (PRIMES,), None),
    (powers.by_powers, (7, 3, 0), (PRIMES, ROOTS, FROM_NOUGHT), None),
    (powers.by_powers, (7, 5, LONG), (PRIMES, ROOTS, FROM_NOUGHT), None),
    (powers.by_two, (7, 3, 5), (PRIMES_FROM_3, ROOTS, ROOTS), None),
    (corners.taken, ((3, 4), (0, None, 3), 3), (BOARDS, LAYS, CORNERS), None),
    (corners.taken, ((3, 4), (0, None, 3), 1), (BOARDS, LAYS, CORNERS), NoPoint),
    (corners.taken, ((3, 1), (None, None, None), 0), (BOARDS, LAYS, CORNERS), NoPoint),
    (corners.taken, ((3, 1), (0, None, None), 0), (BOARDS, LAYS, CORNERS), TooFew),
    (corners.put_to, LAY + (1,), (BOARDS, LAYS, CORNERS), None),
    (corners.put_to, WIDE + (1,), (BOARDS, LAYS, CORNERS), TooMany),
    (corners.put_to, HIGH + (1,), (BOARDS, LAYS, CORNERS), TooMany),
    (corners.good_corners, LAY, (BOARDS, LAYS), None),
    (corners.good_corners, LIKE, (BOARDS, LAYS), NoUnlike),
    (corners.good_corners, WIDE_LIKE, (BOARDS, LAYS), NoUnlike),
    (corners.good_corners, WIDE, (BOARDS, LAYS), TooMany),
    (corners.good_corners, HIGH, (BOARDS, LAYS), TooMany),
    (turns.turned_board, ((3, 4), (1, 0, 1)), (BOARDS, TURNS), None),
    (turns.turned, LAY + ((1, 0, 1),), (BOARDS, LAYS, TURNS), None),
    (turns.least_turned, LAY, (BOARDS, LAYS), None),
    (turns.own_turns, LAY, (BOARDS, LAYS), None),
    (turns.turns_together, ((1, 0, 1), (0, 1, 1)), (TURNS, TURNS), None),
    (turns.kinds, (5,), (KINDS,), None),
    (turns.kinds_many, (5,), (KINDS,), None),
    (rounds.round_steps, FULL, (BOARDS, FULLS), None),
    (rounds.round_steps, LAY, (BOARDS, FULLS), NoLay),
    (rounds.is_round, FULL, (BOARDS, FULLS), None),
    (rounds.is_round, LIKE, (BOARDS, FULLS), NoLay),
    (rounds.led_round, FULL + (2,), (BOARDS, FULLS, ROUNDS), None),
    (rounds.led_round, LIKE + (2,), (BOARDS, FULLS), NoLay),
    (rounds.led_round, LIKE + (3,), (BOARDS, FULLS), NoLay),
    (texts.lay_text, LAY, (BOARDS, LAYS), None),
    (texts.read_lay, ("3x4: 2 . 0",), (TEXTS,), None),
    (Desk().say, ("shown",), (LINES,), None),
    (Desk().say, ("put 1 1",), (LINES,), NoNumber),
    (Desk().say, ("back",), (LINES,), NoDeed),
]
for told in (fits.all_fits, fits.fits_many, fits.first_fit, fits.rows_for, fits.sure):
    ASKED += [(told, LAY, (BOARDS, LAYS), None), (told, WIDE, (BOARDS, LAYS), TooMany)]
    ASKED += [(told, HIGH, (BOARDS, LAYS), TooMany)]


def choices_of(many, wrong):
    """The things to hand in at each place where some are wrong: few of them where places are many."""
    return wrong[1] if many < 3 else wrong[1][:4]


class FirstRefusalTest(RefusalCase):
    def test_every_function_is_asked(self):
        asked = {told.__name__ for told, *others in ASKED}
        # Of anything it is told whether it is a board, so that is never refused; a desk is asked by its lines.
        names = {top for tops in INTERFACE.values() for top in tops} - {"is_board", "Desk"} | {"say"}
        self.assertEqual(asked, names)

    def test_one_wrong_thing_at_each_place(self):
        for told, handed, wrongs, last in ASKED:
            for at, (error, things) in enumerate(wrongs):
                for thing in things:
                    self.refused(error, told, *handed[:at], thing, *handed[at + 1:])

    def test_several_wrong_things_at_once(self):
        for told, handed, wrongs, last in ASKED:
            for marks in product((False, True), repeat=len(wrongs)):
                if sum(marks) < 2:
                    continue
                places = [
                    choices_of(sum(marks), wrong) if mark else [thing]
                    for mark, wrong, thing in zip(marks, wrongs, handed)
                ]
                error = wrongs[marks.index(True)][0]
                for things in product(*places):
                    self.refused(error, told, *things, *handed[len(wrongs):])

    def test_what_is_due_when_nothing_else_is(self):
        for told, handed, wrongs, last in ASKED:
            if last is None:
                told(*handed)
            else:
                self.refused(last, told, *handed)


if __name__ == "__main__":
    unittest.main()
