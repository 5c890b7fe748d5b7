"""The steps between the points of a lay, and which of them are alike."""

from unlikesteps.errors import NoUnlike
from unlikesteps.lays import points


def point_pairs(board, lay):
    """Tell each two points of the lay as a tuple (line, row, other, there), by their lines."""
    found = points(board, lay)
    return [(line, row, other, there) for line, row in found for other, there in found if line < other]


def steps(board, lay):
    """Tell the rising list of the lay's steps, each as a tuple (step, line, other)."""
    return sorted([
        ((other - line, there - row), line, other)
        for line, row, other, there in point_pairs(board, lay)
    ])


def first_like(board, lay):
    """Tell the least tuple (line, other, here, there) of two like steps, None where there is none."""
    told = steps(board, lay)
    # Like steps lie side by side in the rising list, by their lines: the least partner
    # that a step can have behind it is always its neighbour.
    likes = [
        (line, other, here, there)
        for (step, line, other), (beside, here, there) in zip(told, told[1:])
        if step == beside
    ]
    return min(likes, default=None)


def is_unlike(board, lay):
    """Tell whether no two steps of the lay are alike."""
    return first_like(board, lay) is None


def need_unlike(board, lay):
    """Refuse what is no board, no lay of it, or a lay with like steps."""
    if not is_unlike(board, lay):
        raise NoUnlike("two steps of the lay are alike")


def ups(board, lay):
    """Tell for each number of lines on, from 1, the list of the ups of the steps that go so far."""
    pairs = point_pairs(board, lay)
    told = [[] for line in range(board[0])]
    for line, row, other, there in pairs:
        told[other - line - 1].append(there - row)
    return told
