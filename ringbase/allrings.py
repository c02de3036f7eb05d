"""All rings of a web of small rank, and the base that is taken out of them in their order."""

from ringbase.bases import reduced, rows_of
from ringbase.errors import TooMany
from ringbase.evens import chord_ring, chords
from ringbase.rings import by_length, is_ring
from ringbase.webs import rank

MOST_RANK = 8


def check_rank(web):
    if rank(web) > MOST_RANK:
        raise TooMany("all rings are told of a web of rank 8 at most")


def even_sets(web):
    """All even sets, in the order of their numbers."""
    found = [0]
    for chord in chords(web):
        ring = chord_ring(web, chord)
        found = found + [even ^ ring for even in found]
    return found


def all_rings(web):
    """All rings, by rising length, those of one length by rising number."""
    check_rank(web)
    return by_length(web, [even for even in even_sets(web) if is_ring(web, even)])


def first_base(web):
    """The rings that are no sum of those taken ahead, all rings gone through in their order."""
    taken = []
    for ring in all_rings(web):
        if reduced(rows_of(taken), ring)[0] > 0:
            taken.append(ring)
    return taken
