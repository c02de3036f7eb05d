"""Forests of a web, counted by the points' table, by taking ties apart, and one by one."""

from ringbase.errors import TooMany
from ringbase.tables import determinant
from ringbase.webs import all_ties, pieces, rank, ties_in

MOST_TAKEN = 12


def is_forest(web, tie_set):
    """Whether a set has no ring in it, and over it the pieces are those of all ties."""
    over_set = pieces(web, tie_set)
    # Each tie of a set without a ring makes the pieces one fewer.
    ringless = len(ties_in(tie_set)) == web[0] - len(over_set)
    return ringless and over_set == pieces(web, all_ties(web))


def ties_between(web, one, other):
    return len([tie for tie in web[1] if one in tie[:2] and other in tie[:2]])


def points_table(web):
    """The points' table: for each point that is not the least of its piece its ties, and those that join two."""
    leasts = [piece[0] for piece in pieces(web, all_ties(web))]
    kept = [point for point in range(web[0]) if point not in leasts]
    table = []
    for one in kept:
        # Of a point and itself this counts all its ties.
        counts = [ties_between(web, one, other) for other in kept]
        table.append([many if other == one else -many for other, many in zip(kept, counts)])
    return table


def forest_many(web):
    """The count of forests."""
    return determinant(points_table(web))


def check_few(web):
    if len(web[1]) > MOST_TAKEN:
        raise TooMany("this is told of a web of 12 ties at most")


def end_moved(end, one, other):
    return one if end == other else end


def web_drawn_together(web, one, other):
    """The web with its ties at the other point moved to the one; those whose ends fall together are left out."""
    ties = [(end_moved(tie[0], one, other), end_moved(tie[1], one, other), tie[2]) for tie in web[1]]
    # The other point stays behind without a tie, which leaves the count as it is.
    return (web[0], tuple([tie for tie in ties if tie[0] != tie[1]]))


def taken_apart(web):
    if len(web[1]) == 0:
        return 1
    first = web[1][0]
    without = (web[0], web[1][1:])
    many = taken_apart(web_drawn_together(without, first[0], first[1]))
    # The rank stays where the web without the tie has one more piece.
    if rank(without) < rank(web):
        many += taken_apart(without)
    return many


def forests_by_taking(web):
    """The count of forests, by taking the web apart tie by tie."""
    check_few(web)
    return taken_apart(web)


def all_forests(web):
    """The ascending list of all forests."""
    check_few(web)
    return [tie_set for tie_set in range(all_ties(web) + 1) if is_forest(web, tie_set)]
