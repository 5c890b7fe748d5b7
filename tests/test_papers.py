"""Papers that no whole lay fits a lay: promises 2, 3, 4, 5, 6, 41 and 42."""

import unittest
from copy import deepcopy
from itertools import product

from tests.things import (
    NO_BOARDS, NO_LAYS, ODD_THINGS, SMALL_BOARDS, RefusalCase, all_lays, like_tuples, nest, plain_fits, plain_free, put,
)
from unlikesteps.errors import NoBoard, NoLay, NoPaper, TooMany
from unlikesteps.papers import ends_many, is_paper, paper_for

WORDS = ("like", "shut", "cases", "Like", "cases ", "", "case")
LIKE_LAY = ((5, 5), (0, 1, None, 3, 4))
SHUT_LAY = ((3, 3), (0, 1, None))
CASES_LAY = ((3, 3), (None, 1, None))
CASES = ("cases", 0, (("shut", 2), ("shut", 2)))


def papers_of(board, lay):
    """Every paper for the lay."""
    found = [("like",) + likes for likes in like_tuples(lay)]
    for line in range(board[0]):
        if lay[line] is None:
            rows = plain_free(board, lay, line)
            if rows:
                choices = product(*[papers_of(board, put(lay, line, row)) for row in rows])
                found += [("cases", line, papers) for papers in choices]
            else:
                found.append(("shut", line))
    return found


def lays_with_papers():
    """Lays of boards so small that all their papers can be listed, with these."""
    for board in ((1, 1), (2, 1), (3, 1), (4, 1), (2, 2), (3, 2), (4, 2), (3, 3), (2, 4), (4, 3)):
        for lay in all_lays(board):
            if board != (4, 3) or lay != (None,) * 4:
                yield board, lay, papers_of(board, lay)


def changed(thing):
    """The thing with one change somewhere within it, in many ways."""
    if isinstance(thing, str):
        yield from (word for word in WORDS if word != thing)
        yield from (None, 0, [thing], b"like")
    elif isinstance(thing, int):
        yield from (thing + 1, thing - 1, -1 - thing, thing + 100, 10 ** 39, None, str(thing), (thing,), [thing])
        yield from (True, False, float(thing))
    else:
        yield from (list(thing), thing + (None,), (thing,), [thing], {"a": thing}, thing[::-1])
        for place, part in enumerate(thing):
            yield thing[:place] + thing[place + 1:]
            yield thing[:place] + (part, part) + thing[place + 1:]
            yield thing[:place] + thing[place + 1:place + 2] + (part,) + thing[place + 2:]
            for other in changed(part):
                yield thing[:place] + (other,) + thing[place + 1:]


def plain_ends(thing):
    """How many of the two words stand anywhere within the thing."""
    return repr(thing).count("'like'") + repr(thing).count("'shut'")


class IsPaperTest(unittest.TestCase):
    def told(self, expected, board, lay, thing):
        self.assertIs(is_paper(board, lay, thing), expected, (board, lay, thing))

    def test_like(self):
        for thing in (("like", 0, 1, 3, 4), ("like", 0, 3, 1, 4)):
            self.told(True, *LIKE_LAY, thing)
        for thing in (
            ("like", 0, 1, 2, 3), ("like", 0, 2, 1, 3), ("like", 2, 3, 3, 4), ("like", 0, 1, 0, 1),
            ("like", 3, 4, 0, 1), ("like", 1, 4, 0, 3), ("like", 1, 0, 4, 3), ("like", 4, 3, 1, 0),
            ("like", 0, 1, 1, 3), ("like", 0, 0, 1, 1),
            ("like", 0, 1, 4, 3), ("like", 0, 1, 3, 5), ("like", -5, -4, 3, 4), ("like", False, True, 3, 4),
            ("like", 0, True, 3, 4), ("like", 0, 1, 3), ("like", 0, 1, 3, 4, 4), ("like", (0, 1, 3, 4)), ("like",),
            ["like", 0, 1, 3, 4], ("shut", 0, 1, 3, 4), ("cases", 0, 1, 3, 4), ("Like", 0, 1, 3, 4), (0, 1, 3, 4),
            ("like", 0, 1, 3, 10 ** 39), ("like", 0, 1, 3, None), ("like", "0", 1, 3, 4), ("like", 0.0, 1, 3, 4),
        ):
            self.told(False, *LIKE_LAY, thing)

    def test_like_steps_may_share_a_point(self):
        self.told(True, (3, 3), (0, 1, 2), ("like", 0, 1, 1, 2))
        self.told(True, (5, 5), (0, None, 2, None, 4), ("like", 0, 2, 2, 4))

    def test_lines_that_do_not_rise(self):
        # Both steps are the same when they are told backwards, too.
        self.told(True, (4, 4), (0, 1, 2, 3), ("like", 0, 2, 1, 3))
        for thing in (("like", 2, 0, 3, 1), ("like", 0, 2, 3, 1), ("like", 1, 3, 0, 2), ("like", 0, 2, 0, 2)):
            self.told(False, (4, 4), (0, 1, 2, 3), thing)

    def test_shut(self):
        self.told(True, *SHUT_LAY, ("shut", 2))
        for thing in (
            ("shut", 0), ("shut", 1), ("shut", 3), ("shut", -1), ("shut", None), ("shut",), ("shut", 2, 2), ["shut", 2],
            ("shut", True), ("shut", "2"), ("shut", (2,)), ("shut", 2.0), ("shut", 10 ** 39), ("like", 2), ("cases", 2),
            ("cases", 2, ()), ("cases", 2, (("shut", 2),)), ("shut", 2, ()), "shut", ("SHUT", 2), (2, "shut"),
        ):
            self.told(False, *SHUT_LAY, thing)

    def test_shut_with_a_free_row(self):
        self.told(False, (3, 4), (0, 1, None), ("shut", 2))
        self.told(False, *CASES_LAY, ("shut", 0))
        self.told(False, (1, 1), (None,), ("shut", 0))

    def test_shut_of_truths_in_the_stead_of_lines(self):
        self.told(True, (2, 1), (None, 0), ("shut", 0))
        self.told(False, (2, 1), (None, 0), ("shut", False))
        self.told(True, (2, 1), (0, None), ("shut", 1))
        self.told(False, (2, 1), (0, None), ("shut", True))

    def test_each_bare_line_of_a_lay_with_like_steps_is_shut(self):
        self.told(True, *LIKE_LAY, ("shut", 2))
        self.told(True, (12, 12), (0, 1, 2) + (None,) * 9, ("shut", 11))

    def test_cases(self):
        self.told(True, *CASES_LAY, CASES)
        self.told(True, *CASES_LAY, ("cases", 2, (("shut", 0), ("shut", 0))))
        for thing in (
            ("cases", 0, (("shut", 2),)), ("cases", 0, (("shut", 2),) * 3), ("cases", 0, ()), ("cases", 0), ("cases",),
            ("cases", 1, (("shut", 2), ("shut", 2))), ("cases", 0, [("shut", 2), ("shut", 2)]), list(CASES),
            ("cases", 0, (["shut", 2], ("shut", 2))), ("cases", 0, (("shut", 2), None)), ("cases", 0, "ab"),
            ("cases", False, (("shut", 2), ("shut", 2))), ("cases", 3, (("shut", 2), ("shut", 2))),
            ("cases", -3, (("shut", 2), ("shut", 2))), ("cases", 0, (("shut", 0), ("shut", 2))),
            ("shut", 0, (("shut", 2), ("shut", 2))), ("cases", 0, {0: ("shut", 2), 2: ("shut", 2)}),
            ("cases", 0, ("shut", 2)), CASES + (0,), ("cases", 0, 2), ("cases", 0, None),
            ("cases", 0, (("shut", 2), CASES)),
        ):
            self.told(False, *CASES_LAY, thing)

    def test_cases_in_the_order_of_the_rows(self):
        # In row 1 the line 1 shuts line 2, in row 2 it leaves it one row.
        papers = (("shut", 2), ("cases", 2, (("shut", 3),)))
        self.told(True, (4, 3), (0, None, None, None), ("cases", 1, papers))
        self.told(False, (4, 3), (0, None, None, None), ("cases", 1, papers[::-1]))
        # Upside down it is the other way round.
        self.told(False, (4, 3), (2, None, None, None), ("cases", 1, papers))
        self.told(True, (4, 3), (2, None, None, None), ("cases", 1, papers[::-1]))

    def test_cases_by_other_lines(self):
        papers = (("cases", 1, (("shut", 2),)), ("cases", 2, (("shut", 1),)))
        for told in (papers, papers[::-1]):
            self.told(True, (4, 2), (None,) * 4, ("cases", 0, told))
            self.told(False, (4, 2), (None,) * 4, ("cases", 1, told))

    def test_all_papers_of_small_boards_and_what_is_nearly_one(self):
        many = 0
        for board, lay, papers in lays_with_papers():
            known = {repr(paper) for paper in papers}
            for paper in papers:
                self.told(True, board, lay, paper)
                if len(papers) < 40 or repr(paper) < repr(papers[20]):
                    for thing in changed(paper):
                        self.told(repr(thing) in known, board, lay, thing)
                        many += 1
        self.assertGreater(many, 10000)

    def test_a_lay_that_some_whole_lay_fits_has_no_paper(self):
        for board, lay, papers in lays_with_papers():
            self.assertEqual(bool(papers), not plain_fits(board, lay), (board, lay))
        for thing in (("shut", 1), ("shut", 2), ("cases", 1, (("shut", 2), ("shut", 2))), ("like", 0, 1, 1, 2)):
            self.told(False, (3, 3), (0, None, None), thing)

    def test_things_of_every_kind(self):
        things = ODD_THINGS + [
            "like", "shut", "cases", ("like",), ("cases", 0, nest(37)), ("cases", 0, (nest(36),) * 2), (nest(39), 1),
            (nest(39), 1, 2), ([], 1), ({}, 1, 2), ({1: 2}, 0, 1, 3, 4), ("like",) + (nest(39),) * 4,
            ("shut", nest(39)), ("cases", nest(39), nest(38)), ("cases", 0, (None,) * 4990), ("like",) * 5,
        ]
        for thing in things:
            for board, lay in (LIKE_LAY, SHUT_LAY, CASES_LAY, ((1, 1), (None,)), ((1, 1), (0,))):
                self.told(False, board, lay, thing)
            self.told(False, (12, 12), (None,) * 12, thing)

    def test_cases_within_cases_deeper_than_the_board(self):
        for board in ((2, 1), (3, 1), (12, 1), (12, 12)):
            for inner in (("shut", 0), ("shut", 1), ("like", 0, 1, 1, 2)):
                thing = inner
                for depth in range(13):
                    thing = ("cases", depth % board[0], (thing,))
                self.told(False, board, (None,) * board[0], thing)
                for _ in range(6):
                    thing = ("cases", 0, (thing,))
                self.told(False, board, (None,) * board[0], thing)

    def test_boards_of_any_size(self):
        self.told(True, (12, 1), (None,) * 12, ("cases", 11, (("shut", 0),)))
        self.told(False, (12, 1), (None,) * 12, ("cases", 11, (("shut", 11),)))
        self.told(False, (12, 1), (None,) * 12, ("cases", 12, (("shut", 0),)))
        self.told(True, (12, 12), tuple(range(12)), ("like", 0, 10, 1, 11))
        self.told(False, (12, 12), tuple(range(12)), ("like", 0, 11, 1, 11))
        self.told(True, (7, 8), (0, 1, None, None, None, 6, 7), ("shut", 4))
        self.told(True, (8, 2), (None, 0, None, None, None, None, None, None), ("cases", 7, (("shut", 0),)))


class PaperForTest(unittest.TestCase):
    def test_some_paper_just_where_none_fits(self):
        for board in SMALL_BOARDS:
            for lay in all_lays(board):
                paper = paper_for(board, lay)
                self.assertEqual(paper is None, bool(plain_fits(board, lay)), (board, lay))
                if paper is not None:
                    self.assertIs(is_paper(board, lay, paper), True, (board, lay, paper))

    def test_greater_boards(self):
        for board in ((6, 7), (6, 6), (5, 5), (5, 7)):
            self.assertIsNone(paper_for(board, (None,) * board[0]))
            for line in range(board[0]):
                for row in range(board[1]):
                    for also in range(board[1]):
                        lay = put(put((None,) * board[0], line, row), (line + 2) % board[0], also)
                        if row != also:
                            paper = paper_for(board, lay)
                            self.assertEqual(paper is None, bool(plain_fits(board, lay)), (board, lay))
                            self.assertIs(is_paper(board, lay, paper), paper is not None, (board, lay))

    def test_fewer_rows_than_lines(self):
        for wide in range(2, 7):
            for high in range(1, wide):
                paper = paper_for((wide, high), (None,) * wide)
                self.assertIs(is_paper((wide, high), (None,) * wide, paper), True)
                self.assertEqual(paper[0], "cases")

    def test_whole_lays(self):
        self.assertIsNone(paper_for((3, 3), (0, 2, 1)))
        self.assertIsNone(paper_for((1, 1), (0,)))
        self.assertEqual(paper_for((3, 3), (0, 1, 2)), ("like", 0, 1, 1, 2))
        self.assertEqual(paper_for(*SHUT_LAY), ("shut", 2))


class EndsTest(unittest.TestCase):
    def test_how_many_ends(self):
        self.assertEqual(ends_many(*LIKE_LAY, ("like", 0, 1, 3, 4)), 1)
        self.assertEqual(ends_many(*SHUT_LAY, ("shut", 2)), 1)
        self.assertEqual(ends_many(*CASES_LAY, CASES), 2)
        self.assertEqual(ends_many((12, 1), (None,) * 12, ("cases", 11, (("shut", 0),))), 1)
        self.assertEqual(ends_many((12, 12), tuple(range(12)), ("like", 0, 10, 1, 11)), 1)

    def test_many_papers(self):
        for board, lay, papers in lays_with_papers():
            for paper in papers:
                self.assertEqual(ends_many(board, lay, paper), plain_ends(paper), (board, lay, paper))
        for board in ((6, 5), (5, 4), (6, 3), (4, 3)):
            paper = paper_for(board, (None,) * board[0])
            self.assertEqual(ends_many(board, (None,) * board[0], paper), plain_ends(paper))
            self.assertGreater(plain_ends(paper), 1)


class KeptTest(unittest.TestCase):
    def test_what_is_handed_in_stays_as_it_was(self):
        for thing in (
            list(CASES), ("cases", 0, [("shut", 2), ("shut", 2)]), {"cases": CASES}, ("cases", 0, (["shut", 2], {})),
            [[CASES], [CASES]],
        ):
            before = deepcopy(thing)
            self.assertIs(is_paper(*CASES_LAY, thing), False)
            with self.assertRaises(NoPaper):
                ends_many(*CASES_LAY, thing)
            self.assertEqual(repr(thing), repr(before))

    def test_the_same_asked_again(self):
        for board, lay in (LIKE_LAY, SHUT_LAY, CASES_LAY, ((3, 3), (None,) * 3), ((6, 5), (None,) * 6)):
            self.assertEqual(paper_for(board, lay), paper_for(board, lay))


class RefusalTest(RefusalCase):
    def test_no_board(self):
        for thing in NO_BOARDS:
            for lay in ((0, 1, None), "ab", None):
                self.refused(NoBoard, paper_for, thing, lay)
                for paper in (("shut", 2), None, nest(40)):
                    self.refused(NoBoard, is_paper, thing, lay, paper)
                    self.refused(NoBoard, ends_many, thing, lay, paper)

    def test_no_lay(self):
        for thing in NO_LAYS:
            self.refused(NoLay, paper_for, (3, 4), thing)
            for paper in (("shut", 2), None, nest(40)):
                self.refused(NoLay, is_paper, (3, 4), thing, paper)
                self.refused(NoLay, ends_many, (3, 4), thing, paper)

    def test_no_paper(self):
        for thing in ODD_THINGS + [("shut", 0), ("shut", True), ["shut", 2], ("cases", 2, ()), ("like", 0, 1, 1, 2)]:
            self.refused(NoPaper, ends_many, *SHUT_LAY, thing)
        for thing in changed(CASES):
            if not is_paper(*CASES_LAY, thing):
                self.refused(NoPaper, ends_many, *CASES_LAY, thing)
        self.refused(NoPaper, ends_many, (12, 12), (None,) * 12, ("shut", 0))
        # A paper for another lay is none for this one.
        self.refused(NoPaper, ends_many, (3, 4), (0, 1, None), ("shut", 2))

    def test_too_many(self):
        for board in ((7, 7), (6, 8), (7, 1), (1, 8), (12, 12), (12, 1), (1, 12)):
            lay = (None,) * board[0]
            self.refused(TooMany, paper_for, board, lay)
            self.refused(TooMany, paper_for, board, (0,) + lay[1:])
            self.refused(NoLay, paper_for, board, list(lay))
            self.refused(NoLay, paper_for, board, lay + (None,))
        self.refused(TooMany, paper_for, (7, 7), tuple(range(7)))
        self.refused(NoBoard, paper_for, (13, 7), (None,) * 13)


if __name__ == "__main__":
    unittest.main()
