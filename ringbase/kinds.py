"""The three kinds of rings: in no least base, in some, in every one; and the papers that show it."""

from ringbase.allrings import all_rings, check_rank
from ringbase.bases import reduced, rows_of
from ringbase.cuts import bears_oddly
from ringbase.rings import check_ring, is_ring_number
from ringbase.webs import has_tie, is_set, length_of, ties_in


def shorter_rings(web, ring):
    """All rings that are shorter than a ring."""
    length = length_of(web, ring)
    return [other for other in all_rings(web) if length_of(web, other) < length]


def other_rings(web, ring):
    """All rings but the ring itself that are no longer than it."""
    length = length_of(web, ring)
    return [other for other in all_rings(web) if other != ring and length_of(web, other) <= length]


def parts_of(rings, rows, ring):
    """The ascending list of those of the rings whose sum a ring is; it is one by their rows."""
    return sorted([rings[place] for place in ties_in(reduced(rows, ring)[1])])


def marks_against(rows, ring):
    """Marks that a ring bears oddly and each sum of the rows evenly; it is no such sum."""
    # What is left of the ring has no lead, so of these marks it has the one tie alone;
    # a row has of them the tie and its own lead, or neither.
    tie = ties_in(reduced(rows, ring)[0])[0]
    marks = 1 << tie
    for lead, row, places in rows:
        if has_tie(row, tie):
            marks |= 1 << lead
    return marks


def ring_paper(web, ring):
    """A paper of the ring's kind."""
    check_rank(web)
    check_ring(web, ring)
    shorter = shorter_rings(web, ring)
    rows = rows_of(shorter)
    if reduced(rows, ring)[0] == 0:
        return ("none", parts_of(shorter, rows, ring))
    others = other_rings(web, ring)
    more_rows = rows_of(others)
    if reduced(more_rows, ring)[0] > 0:
        return ("every", marks_against(more_rows, ring))
    return ("some", marks_against(rows, ring), parts_of(others, more_rows, ring))


def is_sum_of(ring, rings):
    """Whether a ring is the sum of an ascending list of rings."""
    total = 0
    for place, other in enumerate(rings):
        if place > 0 and other <= rings[place - 1]:
            return False
        total ^= other
    return total == ring


def all_rings_shorter(web, ring, rings):
    """Whether a list of any numbers has rings alone that are shorter than a ring."""
    length = length_of(web, ring)
    return all([is_ring_number(web, other) and length_of(web, other) < length for other in rings])


def all_rings_other(web, ring, rings):
    """Whether a list of any numbers has other rings alone, none longer than the ring."""
    length = length_of(web, ring)
    if ring in rings:
        return False
    return all([is_ring_number(web, other) and length_of(web, other) <= length for other in rings])


def marks_part(web, marks, ring, rings):
    """Whether any number is marks that a ring bears oddly and each of the rings evenly."""
    if not is_set(web, marks) or not bears_oddly(ring, marks):
        return False
    return not any([bears_oddly(other, marks) for other in rings])


def paper_judged(web, ring, paper):
    """Whether a paper of one of the three forms, of whatever numbers, is right for a ring."""
    check_rank(web)
    check_ring(web, ring)
    if paper[0] == "none":
        return all_rings_shorter(web, ring, paper[1]) and is_sum_of(ring, paper[1])
    if paper[0] == "every":
        return marks_part(web, paper[1], ring, other_rings(web, ring))
    if not marks_part(web, paper[1], ring, shorter_rings(web, ring)):
        return False
    return all_rings_other(web, ring, paper[2]) and is_sum_of(ring, paper[2])
