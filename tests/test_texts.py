"""Lays as texts and back: promises 2, 3, 4, 5 and 101."""

import re
import unittest

from tests.things import NO_BOARDS, NO_LAYS, ODD_THINGS, POWERS, SMALL_BOARDS, WIDE_LAY, RefusalCase, all_lays
from unlikesteps.errors import NoBoard, NoLay, NoText
from unlikesteps.texts import lay_text, read_lay

NUMBER = "(?:0|[1-9][0-9]*)"
FORM = re.compile(f"({NUMBER})x({NUMBER}):((?: (?:[.]|{NUMBER}))+)")

# All signs that texts may have, and figures beyond the plain ones.
SIGNS = [chr(code) for code in range(ord(" "), ord("~") + 1)] + ["\n", "\t"]
OTHER_FIGURES = ["\u0663", "\u00b2", "\uff11", "\u0966", "\u2460"]

WRITTEN = [
    ((1, 1), (0,)), ((1, 1), (None,)), ((3, 4), (2, None, 0)), ((2, 12), (11, 10)), ((12, 2), (None, 1) + (None,) * 10),
    ((12, 12), POWERS), ((12, 12), (None,) * 12), ((10, 11), (10, None, 1, None, 0, None, None, None, None, 9)),
    WIDE_LAY,
]

NO_TEXTS = [
    "", " ", ":", "x", "x:", "x: ", "1x1", "1x1:", "1x1: ", "1x1 .", "1x1:.", "1x1 : .", " 1x1: .", "1x1: . ",
    "1x1:  .", "1x1: .\n", "1x1: .\t", "\n1x1: .", "\t1x1: .", "1x1:\t.", "1x1:\n.", "1x1: . .", "1x1: 0 .", "1x1: 1",
    "1x1: -0", "1x1: +0", "1x1: 00", "1x1: 0.", "1x1: .0", "1x1: ..", "1x1: None", "1x1:: .", "1xx1: .", "1X1: .",
    "1*1: .", "1 x1: .", "1x 1: .", "1x1x1: .", "x1: .", "1x: .", "1: .", "01x1: .", "1x01: .", "0x1:", "0x1: ",
    "0x1: .", "1x0: .", "-1x1: .", "+1x1: .", "1x13: .", "13x1:" + " ." * 13, "100x1:" + " ." * 100, "1x100: .",
    "3x4: 2 . 2", "3x4: 2 . 4", "3x4: 2 . 04", "3x4: 2 .", "3x4: 2 . 0 .", "3x4: 2  . 0", "3x4: 2 . 0 ", "3x4:2 . 0",
    "3x4: 2,.,0", "3x4: 2 . O", "3x4: 2 . 0\n", "3x4: 2 . 0\t", "3x4: 2\n. 0", "3x4: 2 .\t0", "3x4: 2 . 1_0",
    "3x12: 2 . 1_0", "3x4: 2 - 0", "3x4; 2 . 0", "(3, 4)", "((3, 4), (2, None, 0))", "3x4: (2, None, 0)", "." * 300,
    "3x4: 2 . 0" + " ." * 145, "9" * 300, "9" * 290 + "x4: 2 . 0", "3x4: 2 . " + "9" * 291, "0" * 300,
    "3x4: 2 . " + "0" * 290,
]


def plain_read(text):
    """The board and the lay that a text writes, None where it writes none, by one form of all texts."""
    found = FORM.fullmatch(text)
    if found is None:
        return None
    board = (int(found.group(1)), int(found.group(2)))
    lay = tuple(None if word == "." else int(word) for word in found.group(3).split())
    rows = [row for row in lay if row is not None]
    fair = all(1 <= side <= 12 for side in board) and len(lay) == board[0] and len(set(rows)) == len(rows)
    return (board, lay) if fair and all(row < board[1] for row in rows) else None


def texts_about(text):
    """The text with one sign put in, left out or in the stead of another, at each place."""
    for at in range(len(text) + 1):
        yield text[:at] + text[at + 1:]
        for sign in SIGNS + OTHER_FIGURES:
            yield text[:at] + sign + text[at:]
            yield text[:at] + sign + text[at + 1:]


class TextTest(RefusalCase):
    def test_some_texts(self):
        self.assertEqual(lay_text((3, 4), (2, None, 0)), "3x4: 2 . 0")
        self.assertEqual(lay_text((1, 1), (None,)), "1x1: .")
        self.assertEqual(lay_text((1, 1), (0,)), "1x1: 0")
        self.assertEqual(lay_text((2, 12), (11, 10)), "2x12: 11 10")
        self.assertEqual(lay_text((12, 12), POWERS), "12x12: 0 1 3 7 2 5 11 10 8 4 9 6")
        self.assertEqual(lay_text((12, 1), (None,) * 11 + (0,)), "12x1: . . . . . . . . . . . 0")

    def test_refusals(self):
        for thing in NO_BOARDS:
            for lay in ((2, None, 0), "ab", None):
                self.refused(NoBoard, lay_text, thing, lay)
        for thing in NO_LAYS:
            self.refused(NoLay, lay_text, (3, 4), thing)


class ReadTest(RefusalCase):
    def test_some_texts(self):
        self.assertEqual(read_lay("3x4: 2 . 0"), ((3, 4), (2, None, 0)))
        self.assertEqual(read_lay("1x1: ."), ((1, 1), (None,)))
        self.assertEqual(read_lay("2x12: 11 10"), ((2, 12), (11, 10)))
        self.assertEqual(read_lay("12x12: 0 1 3 7 2 5 11 10 8 4 9 6"), ((12, 12), POWERS))

    def test_there_and_back(self):
        lays = [(board, lay) for board in SMALL_BOARDS for lay in all_lays(board)]
        lays += [((wide, high), (None,) * wide) for wide in range(1, 13) for high in range(1, 13)]
        lays += [((wide, 12), POWERS[:wide]) for wide in range(1, 13)]
        for board, lay in lays + WRITTEN:
            told = lay_text(board, lay)
            self.assertEqual(plain_read(told), (board, lay))
            self.assertEqual(read_lay(told), (board, lay))

    def test_one_sign_otherwise(self):
        for board, lay in WRITTEN:
            for text in texts_about(lay_text(board, lay)):
                found = plain_read(text)
                if found is None:
                    self.refused(NoText, read_lay, text)
                else:
                    self.assertEqual(read_lay(text), found, text)

    def test_no_texts(self):
        for text in NO_TEXTS:
            self.assertIsNone(plain_read(text), text)
            self.refused(NoText, read_lay, text)

    def test_other_figures(self):
        for figure in OTHER_FIGURES:
            for text in ("Nx4: 2 . 0", "3xN: 2 . 0", "3x4: N . 0", "3x4: 2 . N", "3x12: 1N . 0", "1Nx1:" + " ." * 12):
                self.refused(NoText, read_lay, text.replace("N", figure))

    def test_other_things(self):
        for thing in ODD_THINGS:
            if thing != "3x4: 2 . 0":
                self.refused(NoText, read_lay, thing)
        for thing in (b"3x4: 2 . 0", ["3x4: 2 . 0"], ("3x4: 2 . 0",), {"3x4: 2 . 0": 1}, ((3, 4), (2, None, 0))):
            self.refused(NoText, read_lay, thing)


if __name__ == "__main__":
    unittest.main()
