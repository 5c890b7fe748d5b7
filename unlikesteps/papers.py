"""Papers by which anybody sees that no whole lay fits a lay."""

from unlikesteps.errors import NoPaper
from unlikesteps.fits import free_rows, need_small
from unlikesteps.lays import is_bare_line, is_line, is_tuple_of, need_lay, with_point
from unlikesteps.steps import first_like


def is_headed(thing, word, many):
    """Tell whether the thing is a tuple of so many things, the word the first of them."""
    return is_tuple_of(thing, many) and thing[0] == word


def is_like_paper(lay, thing):
    """Tell whether the thing is a paper of two like steps of the lay."""
    if not is_headed(thing, "like", 5):
        return False
    if not all([is_line(lay, line) and lay[line] is not None for line in thing[1:]]):
        return False
    line, other, here, there = thing[1:]
    rises = line < other and here < there and (line, other) < (here, there)
    return rises and (other - line, lay[other] - lay[line]) == (there - here, lay[there] - lay[here])


def is_shut_paper(board, lay, thing):
    """Tell whether the thing is a paper of a line for which no row is free."""
    return is_headed(thing, "shut", 2) and is_bare_line(lay, thing[1]) and free_rows(board, lay, thing[1]) == []


def is_cases_paper(board, lay, thing):
    """Tell whether the thing is a paper of papers, one for each row that is free for a line."""
    if not is_headed(thing, "cases", 3) or not is_bare_line(lay, thing[1]):
        return False
    line, papers = thing[1:]
    rows = free_rows(board, lay, line)
    if rows == [] or not is_tuple_of(papers, len(rows)):
        return False
    return all([is_paper(board, with_point(lay, line, row), paper) for row, paper in zip(rows, papers)])


def is_paper(board, lay, thing):
    """Tell of anything whether it is a paper for the lay."""
    need_lay(board, lay)
    return is_like_paper(lay, thing) or is_shut_paper(board, lay, thing) or is_cases_paper(board, lay, thing)


def paper_of_lines(board, lay):
    """Tell some paper for an unlike lay, None where some whole lay fits."""
    if None not in lay:
        return None
    line = lay.index(None)
    papers = []
    for row in free_rows(board, lay, line):
        paper = paper_of_lines(board, with_point(lay, line, row))
        if paper is None:
            return None
        papers.append(paper)
    return ("cases", line, tuple(papers)) if papers else ("shut", line)


def paper_for(board, lay):
    """Tell some paper for the lay, None where some whole lay fits."""
    need_small(board, lay)
    like = first_like(board, lay)
    if like is not None:
        return ("like",) + like
    return paper_of_lines(board, lay)


def ends_of(paper):
    """Tell how many "like" and "shut" the paper has."""
    if paper[0] != "cases":
        return 1
    return sum([ends_of(case) for case in paper[2]])


def ends_many(board, lay, paper):
    """Tell how many "like" and "shut" the lay's paper has."""
    if not is_paper(board, lay, paper):
        raise NoPaper("that is no paper for the lay")
    return ends_of(paper)
