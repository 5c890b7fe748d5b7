"""In how many points a lay, moved, hits itself or another one, and how many of its steps are alike."""

from unlikesteps.lays import need_whole, points


def hits_by_move(board, one, other):
    """Tell in how many points the first lay hits the second, for each move by which it hits it at all."""
    starts = points(board, one)
    ends = points(board, other)
    many_by_move = {}
    for line, row in starts:
        for at, there in ends:
            move = (at - line, there - row)
            many_by_move[move] = many_by_move.get(move, 0) + 1
    return many_by_move


def hits_between(board, one, other, right, up):
    """Tell how many points of the first lay, moved so, are points of the second."""
    many_by_move = hits_by_move(board, one, other)
    need_whole(right)
    need_whole(up)
    return many_by_move.get((right, up), 0)


def hits(board, lay, right, up):
    """Tell in how many points the lay hits itself when it is moved so."""
    return hits_between(board, lay, lay, right, up)


def all_hits(board, lay):
    """Tell the rising list of the tuples (right, up, hits) of all moves by which the lay hits itself."""
    many_by_move = hits_by_move(board, lay, lay)
    return sorted([(right, up, many) for (right, up), many in many_by_move.items()])


def most_hits(board, one, other):
    """Tell in how many points the first lay hits the second by the move that hits it most."""
    return max(list(hits_by_move(board, one, other).values()), default=0)


def like_many(board, lay):
    """Tell how many pairs of like steps the lay has."""
    # A move to the right hits the lay once for each two points between which it is the step.
    return sum([many * (many - 1) // 2 for right, up, many in all_hits(board, lay) if right > 0])
