"""Cuts: the ties between a side and the points that are not in it."""

from ringbase.errors import BadPoint
from ringbase.evens import chord_ring, forest_trails
from ringbase.rings import is_ring_number
from ringbase.webs import check_set, set_of, ties_in


def common(one, other):
    """How many ties two sets have in common, of whatever web."""
    return len(ties_in(one & other))


def bears_oddly(tie_set, marks):
    """Whether a set has an odd number of the marked ties."""
    return common(tie_set, marks) % 2 == 1


def is_side(web, side):
    """Whether a list of any numbers is an ascending one of points, each once."""
    ahead = -1
    for point in side:
        if point <= ahead or point >= web[0]:
            return False
        ahead = point
    return True


def cut_of(web, side):
    """The set of the ties that have one end in a side and one not."""
    if not is_side(web, side):
        raise BadPoint("the list is no side")
    return set_of(web, [k for k, tie in enumerate(web[1]) if (tie[0] in side) != (tie[1] in side)])


def side_of(web, tie_set):
    """The side of a cut, or a ring that has an odd number of the set's ties."""
    check_set(web, tie_set)
    trails = forest_trails(web)
    side = [point for point in range(web[0]) if bears_oddly(trails[point], tie_set)]
    amiss = tie_set ^ cut_of(web, side)
    if amiss == 0:
        return ("side", side)
    # The side is right at each tie of the forest, so all that is amiss are chords;
    # a chord's ring has but the one of them, and so bears the set oddly.
    return ("ring", chord_ring(web, ties_in(amiss)[0]))


def is_side_of(web, side, tie_set):
    """Whether a list of any numbers is a side whose cut the set is."""
    return is_side(web, side) and cut_of(web, side) == tie_set


def side_judged(web, tie_set, answer):
    """Whether an answer as side_of gives it, of whatever numbers, is right."""
    check_set(web, tie_set)
    if answer[0] == "side":
        return is_side_of(web, answer[1], tie_set)
    return is_ring_number(web, answer[1]) and bears_oddly(answer[1], tie_set)
