"""Full lays whose steps are told all round the board, and such that are led round."""

from unlikesteps.errors import NoLay
from unlikesteps.lays import is_full, need_whole_within


def need_full(board, lay):
    """Refuse what is no board, then what is no full lay of it."""
    if not is_full(board, lay):
        raise NoLay("a full lay has a point in each line and in each row")


def round_steps(board, lay):
    """Tell the rising list of the full lay's round steps, each as often as it comes."""
    need_full(board, lay)
    many = len(lay)
    return sorted([
        ((other - line) % many, (there - row) % (many + 1))
        for line, row in enumerate(lay)
        for other, there in enumerate(lay)
        if line != other
    ])


def is_round(board, lay):
    """Tell whether no two round steps of the full lay are the same."""
    told = round_steps(board, lay)
    return len(set(told)) == len(told)


def led_round(board, lay, by):
    """Tell the full lay with each point so many lines on, behind the last line from the first on."""
    need_full(board, lay)
    need_whole_within(by, 0, len(lay) - 1)
    start = len(lay) - by
    return lay[start:] + lay[:start]
