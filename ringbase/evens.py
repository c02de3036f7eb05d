"""Even sets: sums of the rings that chords close over the first forest."""

from ringbase.errors import NoChord, NoSuch, NotEven
from ringbase.webs import all_ties, drawn_together, has_tie, odd_points, rank, ties_in


def is_even(web, tie_set):
    """Whether no point is odd in a set."""
    return odd_points(web, tie_set) == []


def check_even(web, tie_set):
    odd = odd_points(web, tie_set)
    if odd != []:
        raise NotEven("the set is not even", odd[0])


def forest_trails(web):
    """For each point the set of the forest's ties between it and the least point of its piece."""
    leasts = list(range(web[0]))
    trails = [0] * web[0]
    for tie in range(len(web[1])):
        one = web[1][tie][0]
        other = web[1][tie][1]
        if leasts[one] != leasts[other]:
            # This leads from the one piece's least point to the other's; added to
            # a trail, what both have in common goes out, and a new trail is left.
            bridge = trails[one] ^ trails[other] ^ (1 << tie)
            moved = max(leasts[one], leasts[other])
            trails = [trail ^ bridge if least == moved else trail for trail, least in zip(trails, leasts)]
            leasts = drawn_together(leasts, one, other)
    return trails


def forest(web):
    """The set of the first forest's ties."""
    # Each tie of the forest is on the trail of one of its ends.
    found = 0
    for trail in forest_trails(web):
        found |= trail
    return found


def chords(web):
    """The ascending list of the ties that are not in the first forest."""
    return ties_in(all_ties(web) ^ forest(web))


def ring_closed(web, trails, chord):
    tie = web[1][chord]
    return trails[tie[0]] ^ trails[tie[1]] ^ (1 << chord)


def chord_ring(web, tie):
    """The ring that has a chord and no other tie but of the first forest."""
    if tie not in chords(web):
        raise NoChord("the number is no chord of the web")
    return ring_closed(web, forest_trails(web), tie)


def by_chords(web, tie_set):
    """The ascending list of the chords whose rings make up an even set."""
    check_even(web, tie_set)
    return [chord for chord in chords(web) if has_tie(tie_set, chord)]


def even_numbered(web, number):
    """The even set that has just those chords, counted from 0, whose bits the number has."""
    if number < 0 or number >> rank(web) > 0:
        raise NoSuch("no even set has this number")
    trails = forest_trails(web)
    found = 0
    for place, chord in enumerate(chords(web)):
        if has_tie(number, place):
            found ^= ring_closed(web, trails, chord)
    return found


def number_of_even(web, tie_set):
    """The number of an even set."""
    check_even(web, tie_set)
    found = 0
    for place, chord in enumerate(chords(web)):
        if has_tie(tie_set, chord):
            found |= 1 << place
    return found
