"""Rings: even sets without a smaller one in them, their walks, and even sets parted into rings."""

from ringbase.errors import NotRing
from ringbase.evens import check_even, is_even
from ringbase.webs import is_set, length_of, pieces, set_of, ties_in


def is_ring(web, tie_set):
    """Whether a set is even and not empty, and no other even set lies within it but the empty one."""
    if not is_even(web, tie_set):
        return False
    touched = [piece for piece in pieces(web, tie_set) if len(piece) > 1]
    # Each point that an even set touches has two ties of it or more; all have two
    # just where there are as many ties as points, and then each piece is a ring.
    return len(touched) == 1 and len(touched[0]) == len(ties_in(tie_set))


def is_ring_number(web, number):
    """Whether any number, be it a set or none, is a ring of the web."""
    return is_set(web, number) and is_ring(web, number)


def check_ring(web, ring):
    if not is_ring(web, ring):
        raise NotRing("the set is no ring")


def by_length(web, rings):
    """Rings by rising length, those of one length by rising number."""
    return sorted(rings, key=lambda ring: (length_of(web, ring), ring))


def tie_at(web, tie_set, point):
    """The least tie of a set that ends at a point."""
    return [tie for tie in ties_in(tie_set) if point in web[1][tie][:2]][0]


def far_end(web, tie, point):
    """The end of a tie that is not this point."""
    ends = web[1][tie]
    return ends[1] if ends[0] == point else ends[0]


def walked(web, ring):
    """The walk of a ring: pairs (tie, way), from its least tie on, which is gone by 1."""
    check_ring(web, ring)
    first = ties_in(ring)[0]
    walk = [(first, 1)]
    point = web[1][first][1]
    left = ring ^ (1 << first)
    while left > 0:
        tie = tie_at(web, left, point)
        walk.append((tie, 1 if web[1][tie][0] == point else -1))
        point = far_end(web, tie, point)
        left ^= 1 << tie
    return walk


def ring_within(web, even):
    """Some ring within an even set that is not empty."""
    # A point that is come to can be left again, since its ties are even in number;
    # so the way goes on until it comes to one of its own points, and closes a ring there.
    points = [web[1][ties_in(even)[0]][0]]
    ties = []
    left = even
    while points.count(points[-1]) == 1:
        tie = tie_at(web, left, points[-1])
        ties.append(tie)
        points.append(far_end(web, tie, points[-1]))
        left ^= 1 << tie
    return set_of(web, ties[points.index(points[-1]):])


def parted(web, tie_set):
    """An ascending list of rings without a tie in common, whose sum an even set is."""
    check_even(web, tie_set)
    found = []
    left = tie_set
    while left > 0:
        ring = ring_within(web, left)
        found.append(ring)
        left ^= ring
    return sorted(found)
