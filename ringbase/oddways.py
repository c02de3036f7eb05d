"""Least even and odd ways: how far it is from a point to each one, by how often marked ties are borne."""

from ringbase.errors import BadPoint
from ringbase.webs import check_set, has_tie


def steps_by_point(web, marks):
    """For each point its steps: (tie, point come to, 1 where the tie is marked, else 0)."""
    steps = [[] for point in range(web[0])]
    for tie, ends in enumerate(web[1]):
        turn = 1 if has_tie(marks, tie) else 0
        steps[ends[0]].append((tie, ends[1], turn))
        steps[ends[1]].append((tie, ends[0], turn))
    return steps


def least_ways(web, marks, start):
    """For each point the list of the least even way and the least odd one from the start.

    A way is told as (length, sum of its ties), None where there is none.
    """
    steps = steps_by_point(web, marks)
    found = [[None, None] for point in range(web[0])]
    waiting = {(start, 0): (0, 0)}
    while len(waiting) > 0:
        # What still comes is no shorter than the least of those that wait.
        nearest = min(waiting, key=lambda place: waiting[place])
        way = waiting.pop(nearest)
        found[nearest[0]][nearest[1]] = way
        for tie, point, turn in steps[nearest[0]]:
            part = nearest[1] ^ turn
            further = (way[0] + web[1][tie][2], way[1] ^ (1 << tie))
            if found[point][part] is None and further <= waiting.get((point, part), further):
                waiting[(point, part)] = further
    return found


def length_of_way(way):
    return None if way is None else way[0]


def worths_of_ways(ways):
    """The worths of a point, taken from its least ways."""
    return tuple([(length_of_way(even), length_of_way(odd)) for even, odd in ways])


def odd_ways(web, marks, point):
    """The worths of a point: for each point the least length of an even way there and of an odd one."""
    check_set(web, marks)
    if point < 0 or point >= web[0]:
        raise BadPoint("the number is no point of the web")
    return worths_of_ways(least_ways(web, marks, point))
