"""Webs of points and ties, and sets of ties told as numbers."""

from ringbase.errors import BadSet, BadWeb

MOST_POINTS = 10
MOST_TIES = 24
# 10**30 written out: the top of a file takes plain values alone.
LONGEST = 1_000_000_000_000_000_000_000_000_000_000


def made_web(points, ties):
    """The web of so many points and of these ties, each (one, other, length)."""
    if points < 1 or points > MOST_POINTS:
        raise BadWeb("a web has 1 to 10 points")
    if len(ties) > MOST_TIES:
        raise BadWeb("a web has at most 24 ties")
    return (points, tuple([made_tie(points, tie) for tie in ties]))


def made_tie(points, tie):
    if len(tie) != 3:
        raise BadWeb("a tie has three parts")
    for end in (tie[0], tie[1]):
        if end < 0 or end >= points:
            raise BadWeb("a tie ends at points of the web")
    if tie[0] == tie[1]:
        raise BadWeb("a tie joins two unlike points")
    if tie[2] < 1 or tie[2] > LONGEST:
        raise BadWeb("a tie is 1 to 10**30 long")
    return tuple(tie)


def has_tie(tie_set, tie):
    return ((tie_set >> tie) & 1) == 1


def ties_in(tie_set):
    """The ascending list of the ties of a set, of whatever web."""
    return [tie for tie in range(tie_set.bit_length()) if has_tie(tie_set, tie)]


def set_of(web, ties):
    """The set of the ties of a list; one told twice counts once."""
    found = 0
    for tie in ties:
        if tie < 0 or tie >= len(web[1]):
            raise BadSet("the list has a number that is no tie of the web")
        found |= 1 << tie
    return found


def all_ties(web):
    """The set of all ties."""
    return (1 << len(web[1])) - 1


def is_set(web, number):
    """Whether a number is a set of the web's ties."""
    return number >= 0 and number <= all_ties(web)


def check_set(web, tie_set):
    if not is_set(web, tie_set):
        raise BadSet("the number is no set of ties of the web")


def triples_in(web, tie_set):
    """The ties of a set as the web tells them: (one, other, length)."""
    check_set(web, tie_set)
    return [web[1][tie] for tie in ties_in(tie_set)]


def length_of(web, tie_set):
    """The length of a set: that of its ties together."""
    return sum([tie[2] for tie in triples_in(web, tie_set)])


def odd_points(web, tie_set):
    """The ascending list of the points where an odd number of the set's ties end."""
    ends = [0] * web[0]
    for one, other, length in triples_in(web, tie_set):
        ends[one] += 1
        ends[other] += 1
    return [point for point in range(web[0]) if ends[point] % 2 == 1]


def drawn_together(leasts, one, other):
    """The least point of each point's piece, once the pieces of two points are one."""
    low = min(leasts[one], leasts[other])
    high = max(leasts[one], leasts[other])
    return [low if least == high else least for least in leasts]


def pieces(web, tie_set):
    """The pieces over a set: ascending lists, in the order of their least points."""
    leasts = list(range(web[0]))
    for one, other, length in triples_in(web, tie_set):
        leasts = drawn_together(leasts, one, other)
    found = []
    for start in range(web[0]):
        if leasts[start] == start:
            found.append([point for point in range(web[0]) if leasts[point] == start])
    return found


def rank(web):
    """How many ties there are beyond those that hold the pieces together."""
    return len(web[1]) - web[0] + len(pieces(web, all_ties(web)))
