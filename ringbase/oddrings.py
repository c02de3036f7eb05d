"""The least ring with an odd number of marked ties, and what shows that none is shorter."""

from ringbase.cuts import bears_oddly, is_side_of, side_of
from ringbase.oddways import least_ways, worths_of_ways
from ringbase.rings import is_ring_number
from ringbase.webs import check_set, has_tie, length_of


def all_least_ways(web, marks):
    return [least_ways(web, marks, start) for start in range(web[0])]


def worths_of_all(ways):
    return tuple([worths_of_ways(from_point) for from_point in ways])


def worths_for(web, marks):
    """The tuple of the worths of each point."""
    return worths_of_all(all_least_ways(web, marks))


def least_odd(web, marks):
    """A least ring with an odd number of marked ties, with the worths; or the side whose cut the marks are."""
    check_set(web, marks)
    ways = all_least_ways(web, marks)
    rounds = [ways[point][point][1] for point in range(web[0]) if ways[point][point][1] is not None]
    if rounds == []:
        return side_of(web, marks)
    # The ties of an odd round way, added, are an even set with an odd ring in it, no longer
    # than the way. No odd ring is shorter than the least such way, since it is walked as one;
    # so nothing is left beside the ring, and the sum is the ring.
    return ("ring", min(rounds)[1], worths_of_all(ways))


def near_enough(one, other, length):
    if one is None or other is None:
        return one is None and other is None
    return abs(one - other) <= length


def tie_stands(tie, turn, worths):
    """Whether the worths of one point hold along a tie; the turn is 1 where the tie is marked, else 0."""
    here = worths[tie[0]]
    there = worths[tie[1]]
    return near_enough(here[0], there[turn], tie[2]) and near_enough(here[1], there[1 - turn], tie[2])


def worths_stand(web, marks, worths):
    """Whether worths stand for marks, whoever wrote them."""
    check_set(web, marks)
    for point in range(web[0]):
        if worths[point][point][0] != 0:
            return False
        for place, tie in enumerate(web[1]):
            if not tie_stands(tie, 1 if has_tie(marks, place) else 0, worths[point]):
                return False
    return True


def none_shorter(worths, length):
    """Whether no round odd way, as the worths tell it, is shorter than this."""
    rounds = [worths[point][point][1] for point in range(len(worths))]
    return all([worth is None or worth >= length for worth in rounds])


def ring_stands(web, marks, ring, worths):
    if not is_ring_number(web, ring) or not bears_oddly(ring, marks):
        return False
    return worths_stand(web, marks, worths) and none_shorter(worths, length_of(web, ring))


def odd_judged(web, marks, answer):
    """Whether an answer as least_odd gives it, of whatever numbers, stands."""
    check_set(web, marks)
    if answer[0] == "side":
        return is_side_of(web, answer[1], marks)
    return ring_stands(web, marks, answer[1], answer[2])
