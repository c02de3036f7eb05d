"""Heights at the points by what rises along the ties, or a ring on which the rises don't come round."""

from ringbase.errors import BadRow, NoSuch
from ringbase.evens import chord_ring
from ringbase.rings import is_ring_number, walked
from ringbase.webs import drawn_together


def check_row(web, row):
    if len(row) != len(web[1]):
        raise BadRow("a row has a number for each tie")


def check_rest(rest):
    if rest < 0 or rest == 1:
        raise NoSuch("a rest is 0, or from 2 on")


def round_of(web, row, ring):
    """The round of a row on a ring: what it rises by when the ring is walked."""
    check_row(web, row)
    return sum([way * row[tie] for tie, way in walked(web, ring)])


def is_nought(number, rest):
    """Whether a number is 0, or a multiple of the rest where that is not 0."""
    return number == 0 if rest == 0 else number % rest == 0


def ties_amiss(web, row, rest, heights):
    """The ascending list of the ties at which heights don't fit."""
    found = []
    for tie, ends in enumerate(web[1]):
        if not is_nought(heights[ends[1]] - heights[ends[0]] - row[tie], rest):
            found.append(tie)
    return found


def forest_heights(web, row):
    """Heights that fit at each tie of the first forest, 0 at the least point of each piece."""
    leasts = list(range(web[0]))
    heights = [0] * web[0]
    for tie, ends in enumerate(web[1]):
        if leasts[ends[0]] != leasts[ends[1]]:
            amiss = heights[ends[0]] + row[tie] - heights[ends[1]]
            # The piece of the greater least point is lifted; the other one keeps its least point at 0.
            moved = max(leasts[ends[0]], leasts[ends[1]])
            lift = amiss if leasts[ends[1]] == moved else -amiss
            heights = [height + lift if least == moved else height for height, least in zip(heights, leasts)]
            leasts = drawn_together(leasts, ends[0], ends[1])
    return heights


def heights_of(web, row, rest=0):
    """Heights that fit a row by a rest, or a ring whose round shows that there are none."""
    check_row(web, row)
    check_rest(rest)
    heights = forest_heights(web, row)
    amiss = ties_amiss(web, row, rest, heights)
    if amiss != []:
        # Along the rest of the chord's ring the heights fit, so by what they are amiss there its round is off.
        return ("ring", chord_ring(web, amiss[0]))
    if rest > 0:
        heights = [height % rest for height in heights]
    return ("heights", heights)


def heights_judged(web, row, rest, answer):
    """Whether an answer as heights_of gives it, of whatever numbers, is right."""
    check_row(web, row)
    check_rest(rest)
    if answer[0] == "heights":
        return len(answer[1]) == web[0] and ties_amiss(web, row, rest, answer[1]) == []
    return is_ring_number(web, answer[1]) and not is_nought(round_of(web, row, answer[1]), rest)
