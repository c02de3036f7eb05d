"""Bases: rings of which each even set is just one sum, least ones, and the marks that tell a sum's parts."""

from ringbase.cuts import bears_oddly
from ringbase.errors import NoBase
from ringbase.evens import chords
from ringbase.oddrings import least_odd, worths_for
from ringbase.rings import by_length, is_ring_number
from ringbase.webs import has_tie, length_of, rank, set_of


def reduced(rows, tie_set):
    """What is left of a set when rows are added until it has no row's lead, and the places that this used up."""
    left = tie_set
    used = 0
    for lead, row, places in rows:
        if has_tie(left, lead):
            left ^= row
            used ^= places
    return (left, used)


def with_row(rows, added):
    """The rows and one more, whose lead is taken out of the others."""
    found = [added]
    for old in rows:
        if has_tie(old[1], added[0]):
            found.append((old[0], old[1] ^ added[1], old[2] ^ added[2]))
        else:
            found.append(old)
    return found


def rows_of(sets):
    """Rows (lead, row, places) that have the same sums as a list of sets.

    No row has another row's lead, and each is the sum of the sets at its
    places, told as bits. A set that is a sum of sets ahead of it adds no row.
    """
    rows = []
    for place, tie_set in enumerate(sets):
        rest = reduced(rows, tie_set)
        if rest[0] > 0:
            rows = with_row(rows, (rest[0].bit_length() - 1, rest[0], rest[1] ^ (1 << place)))
    return rows


def is_base(web, rings):
    """Whether a list of any numbers is a base."""
    if len(rings) != rank(web) or not all([is_ring_number(web, ring) for ring in rings]):
        return False
    return len(rows_of(rings)) == len(rings)


def marks_for(web, rings):
    """Marks for a base, a set for each ring of it."""
    if not is_base(web, rings):
        raise NoBase("the list is no base")
    # An even set is the sum of the rows whose leads it has; so it takes the ring at a
    # place an odd number of times just where it has an odd number of these leads.
    rows = rows_of(rings)
    found = []
    for place in range(len(rings)):
        found.append(set_of(web, [lead for lead, row, places in rows if has_tie(places, place)]))
    return found


def least_rings(web):
    """The rings of a least base, by rising length, those of one length by rising number."""
    waiting = [1 << chord for chord in chords(web)]
    found = []
    while len(waiting) > 0:
        marks = waiting[0]
        # Some ring bears the marks oddly: they are chords alone, and the ring of each has but that one.
        ring = least_odd(web, marks)[1]
        found.append(ring)
        # No ring found so far may bear marks oddly that still wait; so each next one is no sum of those ahead.
        waiting = [later ^ marks if bears_oddly(ring, later) else later for later in waiting[1:]]
    return by_length(web, found)


def least_base(web):
    """A least base: triples (ring, marks, worths)."""
    rings = least_rings(web)
    marks = marks_for(web, rings)
    return tuple([(ring, own, worths_for(web, own)) for ring, own in zip(rings, marks)])


def lengths(web):
    """The rising list of the lengths of a least base."""
    return [length_of(web, ring) for ring in least_rings(web)]
