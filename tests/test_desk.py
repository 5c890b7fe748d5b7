"""A desk, its deeds and its questions: promises 2, 3, 4, 5, 102 and 103."""

import random
import re
import unittest

from tests.things import ODD_THINGS, POWERS, RefusalCase, like_tuples, plain_fits, plain_free
from unlikesteps.desk import Desk
from unlikesteps.errors import NoDeed, NoLine, NoNumber, NoPoint, StepError, TooMany

NUMBER = "(?:0|[1-9][0-9]?)"
SIDE = "(?:[1-9]|1[0-2])"
LINE = re.compile(f"back|shown|like|many|first|take {NUMBER}|free {NUMBER}|put {NUMBER} {NUMBER}|board {SIDE} {SIDE}")
SIGNS = [chr(code) for code in range(ord(" "), ord("~") + 1)] + ["\n", "\t", "\u0663", "\u00b2", "\uff11"]

# Of each kind of line one or more.
LINES = [
    "board 3 4", "board 12 12", "board 1 10", "put 0 0", "put 10 11", "put 99 1", "take 0", "take 10", "back", "shown",
    "like", "free 0", "free 11", "many", "first",
]
NO_LINES = [
    "", " ", "  ", "ok", "none", "boards 3 4", "Board 3 4", "BACK", "help", "undo", "show", "0", "0 0", "3 4",
    "2 put 0",
    "board", "board 3", "board 3 4 5", "board 0 4", "board 3 0", "board 0 0", "board 13 4", "board 3 13", "board 99 99",
    "board 03 4", "board 3 04", "board -3 4", "board +3 4", "board 3x4", "board 3,4", "board 3 .", "board a b",
    "board 100 1", "board 3  4", "board  3 4", " board 3 4", "board 3 4 ", "board\t3 4", "board 3\t4", "board 3 4\n",
    "put", "put 0", "put 0 0 0", "put 00 0", "put 0 00", "put 01 0", "put 0 01", "put 100 0", "put 0 100", "put 000 0",
    "put -1 0", "put 0 -1", "put +1 0", "put 0 1.0", "put 0 .", "put 0 None", "put a 0", "put 0  0", " put 0 0",
    "put 0 0 ", "put 0 0\n", "\nput 0 0", "put 0\n0", "put\n0 0", "put 0 0\t", "put 0 1_0", "put 0 1e1", "put0 0",
    "take", "take 0 0", "take 00", "take 01", "take 100", "take -1", "take a", "take 0 ", "take  0", " take 0",
    "take 0\n", "take\t0", "take 1" * 20, "back 1", "back 0", "back back", "back ", " back", "back\n", "\tback",
    "backs", "bac", "b",
    "shown 0", "shown ", " shown", "shown\n", "shown shown", "like 0", "like ", " like", "like\t", "likes",
    "free", "free 0 0", "free 00", "free 100", "free -1", "free a", "free 0 ", "free  0", "free 0\n", "free .",
    "many 0", "many ", " many", "many\n", "first 0", "first ", "\nfirst", "first\t", "first many", "many first",
    "1x1: .", "put 0 " + "0" * 290, "put " + "9" * 296, "board 3 4\nput 0 0", "board 3 4 put 0 0", "~" * 300,
    "\n", "\t",
]

# The words of a long run, the more often the more times they stand here.
WORDS = ["put"] * 8 + ["take"] * 2 + ["back"] * 4 + ["board", "shown", "like", "free", "many", "first"]

GREAT_BOARDS = ("board 7 7", "board 6 8", "board 12 12", "board 7 1", "board 1 8", "board 12 1", "board 1 12")


def answer(desk, line):
    """What the desk answers, or the class that it refuses the line with."""
    try:
        return desk.say(line)
    except StepError as error:
        return error.__class__


def desk_told(lines):
    """A new desk that all these lines are told."""
    desk = Desk()
    for line in lines:
        desk.say(line)
    return desk


def all_answers(desk):
    """What the desk answers to all questions."""
    questions = ["shown", "like", "many", "first", *[f"free {line}" for line in range(13)]]
    return [answer(desk, line) for line in questions]


def lines_about(line):
    """The line with one sign put in, left out or in the stead of another, at each place."""
    for at in range(len(line) + 1):
        yield line[:at] + line[at + 1:]
        for sign in SIGNS:
            yield line[:at] + sign + line[at:]
            yield line[:at] + sign + line[at + 1:]


def words(numbers):
    return " ".join(map(str, numbers)) if numbers else "none"


class PlainDesk:
    """What a desk should answer, by the points that lie on it."""

    def __init__(self):
        self.past = []
        self.sides = (1, 1)
        self.rows = {}

    def lay(self):
        return tuple(self.rows.get(line) for line in range(self.sides[0]))

    def keep(self, sides, rows):
        self.past.append((self.sides, self.rows))
        self.sides, self.rows = sides, rows
        return "ok"

    def board(self, wide, high):
        return self.keep((wide, high), {})

    def put(self, line, row):
        if line >= self.sides[0] or row >= self.sides[1]:
            return NoNumber
        others = {at: there for at, there in self.rows.items() if at != line}
        return NoPoint if row in others.values() else self.keep(self.sides, {**others, line: row})

    def take(self, line):
        if line >= self.sides[0]:
            return NoNumber
        return self.keep(self.sides, {at: there for at, there in self.rows.items() if at != line})

    def back(self):
        if not self.past:
            return NoDeed
        self.sides, self.rows = self.past.pop()
        return "ok"

    def shown(self):
        rows = [str(self.rows.get(line, ".")) for line in range(self.sides[0])]
        return f"{self.sides[0]}x{self.sides[1]}: {' '.join(rows)}"

    def like(self):
        return words(min(like_tuples(self.lay()), default=()))

    def free(self, line):
        if line >= self.sides[0] or line in self.rows:
            return NoNumber
        return words(plain_free(self.sides, self.lay(), line))

    def fits(self):
        great = self.sides[0] > 6 or self.sides[1] > 7
        return None if great else plain_fits(self.sides, self.lay())

    def many(self):
        return TooMany if self.fits() is None else str(len(self.fits()))

    def first(self):
        return TooMany if self.fits() is None else words((self.fits() + [()])[0])

    def say(self, line):
        word, *numbers = line.split(" ")
        return getattr(self, word)(*map(int, numbers))


class DeedTest(RefusalCase):
    def test_at_first(self):
        desk = Desk()
        self.assertEqual(desk.say("shown"), "1x1: .")
        self.assertEqual(desk.say("like"), "none")
        self.assertEqual(desk.say("free 0"), "0")
        self.assertEqual(desk.say("many"), "1")
        self.assertEqual(desk.say("first"), "0")
        self.refused(NoDeed, desk.say, "back")

    def test_boards(self):
        desk = Desk()
        for line, shown in (
            ("board 3 4", "3x4: . . ."), ("board 1 12", "1x12: ."), ("board 12 1", "12x1:" + " ." * 12),
            ("board 12 12", "12x12:" + " ." * 12), ("board 1 1", "1x1: ."),
        ):
            self.assertEqual(desk.say(line), "ok")
            self.assertEqual(desk.say("shown"), shown)

    def test_a_new_board_has_no_points(self):
        desk = desk_told(["board 3 3", "put 0 0", "put 1 1", "board 3 3"])
        self.assertEqual(desk.say("shown"), "3x3: . . .")

    def test_points_put_and_taken(self):
        desk = desk_told(["board 3 4"])
        for line, shown in (
            ("put 0 2", "3x4: 2 . ."), ("put 2 0", "3x4: 2 . 0"), ("put 0 3", "3x4: 3 . 0"), ("put 1 2", "3x4: 3 2 0"),
            ("put 1 2", "3x4: 3 2 0"), ("take 0", "3x4: . 2 0"), ("take 0", "3x4: . 2 0"), ("put 2 3", "3x4: . 2 3"),
            ("take 2", "3x4: . 2 ."), ("put 0 0", "3x4: 0 2 ."), ("take 1", "3x4: 0 . ."), ("take 0", "3x4: . . ."),
        ):
            self.assertEqual(desk.say(line), "ok")
            self.assertEqual(desk.say("shown"), shown)

    def test_far_places(self):
        desk = desk_told(["board 12 12", "put 11 11", "put 0 10", "put 10 0"])
        self.assertEqual(desk.say("shown"), "12x12: 10" + " ." * 9 + " 0 11")
        self.assertEqual(desk.say("take 11"), "ok")
        self.assertEqual(desk.say("shown"), "12x12: 10" + " ." * 9 + " 0 .")

    def test_no_such_line_or_row(self):
        for wide, high in ((3, 4), (1, 1), (12, 12), (6, 7)):
            desk = desk_told([f"board {wide} {high}"])
            for line in (wide, wide + 1, 99):
                for row in (0, high - 1, high, 99):
                    self.refused(NoNumber, desk.say, f"put {line} {row}")
                self.refused(NoNumber, desk.say, f"take {line}")
                self.refused(NoNumber, desk.say, f"free {line}")
            for row in (high, high + 1, 99):
                self.refused(NoNumber, desk.say, f"put 0 {row}")
                self.refused(NoNumber, desk.say, f"put {wide - 1} {row}")
            self.assertEqual(desk.say("back"), "ok")
            self.refused(NoDeed, desk.say, "back")

    def test_another_point_in_the_row(self):
        desk = desk_told(["board 3 4", "put 0 2", "put 1 0"])
        for line in ("put 1 2", "put 2 2", "put 0 0", "put 2 0"):
            self.refused(NoPoint, desk.say, line)
        for line in ("put 3 2", "put 99 0", "put 3 4", "put 2 4"):
            self.refused(NoNumber, desk.say, line)
        self.assertEqual(desk.say("shown"), "3x4: 2 0 .")


class BackTest(RefusalCase):
    def test_each_kind_of_deed(self):
        ahead = ["board 3 4", "put 0 2", "put 2 0"]
        for deed in (
            "board 5 6", "board 3 4", "put 1 1", "put 0 3", "put 0 2", "take 0", "take 1", "board 1 1", "board 12 12",
        ):
            desk = desk_told(ahead)
            before = all_answers(desk)
            self.assertEqual(desk.say(deed), "ok")
            self.assertEqual(desk.say("back"), "ok")
            self.assertEqual(all_answers(desk), before, deed)
            self.assertEqual(desk.say("back"), "ok")
            self.assertEqual(desk.say("shown"), "3x4: 2 . .", deed)

    def test_several_till_none_stands(self):
        deeds = [
            "board 3 4", "put 0 2", "put 0 2", "take 1", "put 0 1", "board 2 2", "board 2 2", "put 1 1", "take 1",
            "take 1", "board 12 12", "put 11 11", "put 11 0", "board 1 1", "put 0 0", "take 0",
        ]
        desk = desk_told(deeds)
        for many in range(len(deeds) - 1, -1, -1):
            self.assertEqual(desk.say("back"), "ok")
            self.assertEqual(all_answers(desk), all_answers(desk_told(deeds[:many])), many)
        for _ in range(3):
            self.refused(NoDeed, desk.say, "back")
            self.assertEqual(desk.say("shown"), "1x1: .")

    def test_a_deed_that_changed_nothing_stands(self):
        desk = desk_told(["take 0"])
        self.assertEqual(desk.say("back"), "ok")
        self.refused(NoDeed, desk.say, "back")
        desk = desk_told(["put 0 0", "put 0 0"])
        self.assertEqual(desk.say("back"), "ok")
        self.assertEqual(desk.say("shown"), "1x1: 0")
        self.assertEqual(desk.say("back"), "ok")
        self.assertEqual(desk.say("shown"), "1x1: .")
        self.refused(NoDeed, desk.say, "back")

    def test_deeds_behind_back(self):
        desk = desk_told(["board 2 2", "put 0 0", "back", "put 0 1", "put 1 0", "back"])
        self.assertEqual(desk.say("shown"), "2x2: 1 .")
        desk.say("back")
        self.assertEqual(desk.say("shown"), "2x2: . .")
        desk.say("back")
        self.assertEqual(desk.say("shown"), "1x1: .")
        self.refused(NoDeed, desk.say, "back")

    def test_questions_are_no_deeds(self):
        desk = desk_told(["board 2 2", "shown", "like", "free 0", "many", "first"])
        self.assertEqual(desk.say("back"), "ok")
        self.refused(NoDeed, desk.say, "back")


class QuestionTest(RefusalCase):
    def test_like(self):
        desk = desk_told(["board 12 12", "put 3 4", "put 6 5"])
        self.assertEqual(desk.say("like"), "none")
        desk.say("put 9 6")
        self.assertEqual(desk.say("like"), "3 6 6 9")
        desk.say("put 0 3")
        self.assertEqual(desk.say("like"), "0 3 3 6")
        desk = desk_told(["board 12 12", *[f"put {line} {line}" for line in range(9, 12)]])
        self.assertEqual(desk.say("like"), "9 10 10 11")

    def test_free(self):
        desk = desk_told(["board 3 4", "put 0 0", "put 1 1"])
        self.assertEqual(desk.say("free 2"), "3")
        self.refused(NoNumber, desk.say, "free 0")
        self.refused(NoNumber, desk.say, "free 1")
        self.refused(NoNumber, desk.say, "free 3")
        desk = desk_told(["board 12 12", "put 0 5"])
        self.assertEqual(desk.say("free 11"), "0 1 2 3 4 6 7 8 9 10 11")

    def test_free_of_a_lay_with_like_steps(self):
        desk = desk_told(["board 12 12", "put 0 0", "put 1 1", "put 2 2"])
        for line in range(3, 12):
            self.assertEqual(desk.say(f"free {line}"), "none")
        self.refused(NoNumber, desk.say, "free 2")

    def test_many_and_first(self):
        desk = desk_told(["board 3 3"])
        self.assertEqual((desk.say("many"), desk.say("first")), ("4", "0 2 1"))
        desk.say("put 1 1")
        self.assertEqual((desk.say("many"), desk.say("first")), ("0", "none"))
        desk = desk_told(["board 6 7"])
        self.assertEqual(desk.say("many"), str(len(plain_fits((6, 7), (None,) * 6))))
        self.assertEqual(desk.say("first"), words(plain_fits((6, 7), (None,) * 6)[0]))
        desk = desk_told(["board 3 2"])
        self.assertEqual((desk.say("many"), desk.say("first")), ("0", "none"))

    def test_great_boards(self):
        for board in GREAT_BOARDS:
            desk = desk_told([board, "put 0 0"])
            self.refused(TooMany, desk.say, "many")
            self.refused(TooMany, desk.say, "first")
            self.assertEqual(desk.say("like"), "none")
            self.assertEqual(desk.say("take 0"), "ok")
            high = int(board.split(" ")[2])
            self.assertEqual(desk.say("free 0"), words(range(high)))

    def test_many_points(self):
        desk = desk_told(["board 12 12", *[f"put {line} {row}" for line, row in enumerate(POWERS)]])
        self.assertEqual(desk.say("shown"), "12x12: " + words(POWERS))
        self.assertEqual(desk.say("like"), "none")
        self.refused(NoNumber, desk.say, "free 0")
        desk.say("take 4")
        self.assertEqual(desk.say("free 4"), "2")


class NoLineTest(RefusalCase):
    def test_lines_that_are_none(self):
        for ahead in ([], ["board 3 3", "put 0 1"], ["board 12 12"]):
            desk = desk_told(ahead)
            before = all_answers(desk)
            for line in NO_LINES:
                self.assertIsNone(LINE.fullmatch(line), line)
                self.refused(NoLine, desk.say, line)
            for thing in ODD_THINGS:
                self.refused(NoLine, desk.say, thing)
            for thing in (b"shown", ["shown"], ("put", 0, 0), {"shown": 1}, ["board", 3, 4], 0, 34):
                self.refused(NoLine, desk.say, thing)
            self.assertEqual(all_answers(desk), before)
            for _ in ahead:
                self.assertEqual(desk.say("back"), "ok")
            self.refused(NoDeed, desk.say, "back")

    def test_one_sign_otherwise(self):
        for line in LINES:
            self.assertIsNotNone(LINE.fullmatch(line), line)
            for text in lines_about(line):
                if LINE.fullmatch(text) is None:
                    self.refused(NoLine, Desk().say, text)

    def test_all_numbers(self):
        for number in range(100):
            for line in (f"board {number} 1", f"board 1 {number}"):
                self.assertEqual(answer(Desk(), line), "ok" if 1 <= number <= 12 else NoLine, line)
            for line in (f"put {number} 1", f"put 1 {number}", f"take {number}"):
                self.assertEqual(answer(desk_told(["board 12 12"]), line), "ok" if number < 12 else NoNumber, line)
        for number in ("100", "999", "1000", "0" * 40, "00", "09"):
            for line in ("board N 1", "board 1 N", "put N 0", "put 0 N", "take N", "free N"):
                self.refused(NoLine, Desk().say, line.replace("N", number))

    def test_ahead_of_all_else(self):
        desk = desk_told(["board 12 12", "put 0 0"])
        for line in ("many 0", "first 0", "put 99 00", "put 1 0 0", "free 0 ", "take 99 ", "back 1"):
            self.refused(NoLine, desk.say, line)


class UnchangedTest(RefusalCase):
    def test_what_is_refused_changes_nothing(self):
        ahead = ["board 8 9", "put 0 2", "put 1 0"]
        for line, error in (
            ("put 8 0", NoNumber), ("put 0 9", NoNumber), ("put 3 2", NoPoint), ("put 1 2", NoPoint),
            ("take 8", NoNumber), ("free 0", NoNumber), ("free 8", NoNumber), ("many", TooMany), ("first", TooMany),
            ("board 13 1", NoLine), ("board 0 1", NoLine), ("bac", NoLine), ("", NoLine), (None, NoLine),
            (["put", 0, 0], NoLine), (7, NoLine),
        ):
            for last in ("put 4 4", "put 1 5", "put 0 2", "take 1", "take 5"):
                desk = desk_told(ahead + [last])
                before = all_answers(desk)
                self.refused(error, desk.say, line)
                self.assertEqual(all_answers(desk), before, line)
                self.assertEqual(desk.say("back"), "ok")
                self.assertEqual(all_answers(desk), all_answers(desk_told(ahead)), line)

    def test_a_refused_back_changes_nothing(self):
        desk = Desk()
        self.refused(NoDeed, desk.say, "back")
        self.assertEqual(all_answers(desk), all_answers(Desk()))
        self.assertEqual(desk.say("put 0 0"), "ok")
        self.assertEqual(desk.say("shown"), "1x1: 0")


class LongTest(unittest.TestCase):
    def lines(self, seed):
        """Many lines, the same for the same seed."""
        chance = random.Random(seed)
        sides = [(1, 1), (3, 4), (4, 3), (6, 7), (12, 12), (2, 9)]
        for _ in range(300):
            word = chance.choice(WORDS)
            if word == "board":
                yield "board {} {}".format(*chance.choice(sides))
            elif word == "put":
                yield f"put {chance.randrange(7)} {chance.randrange(8)}"
            elif word in ("take", "free"):
                yield f"{word} {chance.randrange(7)}"
            else:
                yield word

    def test_against_a_plain_desk(self):
        for seed in range(20):
            desk, plain = Desk(), PlainDesk()
            for line in ["board 6 7", *self.lines(seed)]:
                self.assertEqual(answer(desk, line), plain.say(line), (seed, line))
                self.assertEqual(desk.say("shown"), plain.shown(), (seed, line))

    def test_two_desks_by_turns(self):
        for seed in range(5):
            both = [Desk(), Desk()]
            alone = [PlainDesk(), PlainDesk()]
            for lines in zip(self.lines(seed), self.lines(seed + 50)):
                for desk, plain, line in zip(both, alone, lines):
                    self.assertEqual(answer(desk, line), plain.say(line), (seed, line))
            for desk, plain in zip(both, alone):
                self.assertEqual(desk.say("shown"), plain.shown())


if __name__ == "__main__":
    unittest.main()
