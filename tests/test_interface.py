"""Every name of the interface is there, with its arguments: the interface, and promises 4 and 5."""

import importlib
import inspect
import unittest

from unlikesteps.corners import good_corners, put_to
from unlikesteps.desk import Desk
from unlikesteps.fits import all_fits, first_fit
from unlikesteps.lays import lay_of, points
from unlikesteps.papers import is_paper, paper_for
from unlikesteps.powers import by_powers, roots
from unlikesteps.rounds import is_round, led_round
from unlikesteps.texts import lay_text, read_lay
from unlikesteps.turns import least_turned, own_turns, turned, turned_board

INTERFACE = {
    "lays": {
        "is_board": "thing", "is_lay": "board thing", "is_full": "board thing", "points": "board lay",
        "lay_of": "board points",
    },
    "steps": {"steps": "board lay", "is_unlike": "board lay", "first_like": "board lay", "ups": "board lay"},
    "hits": {
        "hits": "board lay right up", "all_hits": "board lay", "hits_between": "board one other right up",
        "most_hits": "board one other", "like_many": "board lay",
    },
    "fits": {
        "all_fits": "board lay", "fits_many": "board lay", "first_fit": "board lay", "rows_for": "board lay",
        "sure": "board lay",
    },
    "papers": {"is_paper": "board lay thing", "paper_for": "board lay", "ends_many": "board lay paper"},
    "most": {
        "most": "board", "most_lays": "board", "many_of": "board number", "places_left": "board lay",
        "is_stuck": "board lay",
    },
    "powers": {"roots": "prime", "by_powers": "prime root number", "by_two": "prime root other"},
    "corners": {"taken": "board lay corner", "put_to": "board lay corner", "good_corners": "board lay"},
    "turns": {
        "turned_board": "board turn", "turned": "board lay turn", "least_turned": "board lay", "own_turns": "board lay",
        "turns_together": "turn other", "kinds": "number", "kinds_many": "number",
    },
    "rounds": {"round_steps": "board lay", "is_round": "board lay", "led_round": "board lay by"},
    "texts": {"lay_text": "board lay", "read_lay": "text"},
    "desk": {"Desk": ""},
}


def arguments(told):
    return " ".join(inspect.signature(told).parameters)


class InterfaceTest(unittest.TestCase):
    def test_names_and_arguments(self):
        for name, tops in INTERFACE.items():
            module = importlib.import_module(f"unlikesteps.{name}")
            for top, handed in tops.items():
                self.assertEqual(arguments(getattr(module, top)), handed, (name, top))

    def test_the_desk(self):
        self.assertEqual(arguments(Desk().say), "line")

    def test_what_was_told_may_be_handed_in_again(self):
        board, lay = read_lay(Desk().say("shown"))
        lay = put_to(board, lay, good_corners(board, lay)[3])
        board = (2, 2)
        self.assertEqual(lay_of(board, points(board, lay)), lay)
        for turn in own_turns(board, lay):
            self.assertEqual(turned(turned_board(board, turn), lay, turn), lay)
        for lay in all_fits((6, 7), first_fit((6, 7), (0, 1) + (None,) * 4)):
            self.assertEqual(read_lay(lay_text((6, 7), lay)), ((6, 7), lay))
        bare = (None,) * 6
        self.assertIs(is_paper((6, 5), bare, paper_for((6, 5), bare)), True)
        lay = by_powers(13, roots(13)[0], 0)
        self.assertIs(is_round((12, 12), led_round((12, 12), lay, 7)), True)
        self.assertEqual(least_turned(*least_turned((12, 12), lay)), least_turned((12, 12), lay))


if __name__ == "__main__":
    unittest.main()
