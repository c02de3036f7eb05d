"""Webs for the tests, and slow answers found straight from the document's words."""

BIG = 10 ** 30

TRIANGLE = (3, ((0, 1, 2), (1, 2, 3), (2, 0, 4)))
TWINS = (2, ((0, 1, 1), (1, 0, BIG), (0, 1, 7)))
LONE = (1, ())
LOOSE = (10, ())
TREE = (4, ((3, 1, 1), (1, 0, 2), (2, 1, 3)))
# Two pieces with a ring each, and the lone point 3 between them by number.
APART = (7, ((4, 6, 1), (0, 2, 2), (5, 4, 3), (2, 1, 4), (6, 5, 5), (1, 0, 6), (0, 1, 7)))
SQUARE = (4, ((2, 3, 5), (0, 1, 1), (3, 0, 2), (1, 2, 2), (0, 2, 9), (3, 1, 9)))
BUNCH = (2, tuple((k % 2, 1 - k % 2, k + 1) for k in range(24)))
# A ring through all points, and behind it ties that join points two and three apart.
FULL = (10, tuple((k % 10, (k + 1 + k // 10) % 10, BIG) for k in range(24)))

# Two rings of three ties that touch at the point 2, and two of two ties that touch at the point 1.
TOUCHING = (5, ((0, 1, 1), (1, 2, 2), (2, 0, 3), (2, 3, 4), (4, 3, 5), (4, 2, 6)))
PAIRS = (3, ((1, 0, 3), (1, 2, 5), (0, 1, 4), (2, 1, BIG)))

# Three points joined to three others, and a base of it whose worth is 3.
CROSSED = (6, tuple((one, 3 + other, 1) for one in range(3) for other in range(3)))
CROSSED_BASE = [238, 413, 245, 350]


def drawn_webs(many, most_points, most_ties):
    """Webs by a plain row of numbers, the same at each run."""
    state = 12345
    webs = []
    for _ in range(many):
        draws = []
        for _ in range(2 + 3 * most_ties):
            state = (state * 1103515245 + 12345) % 2 ** 31
            draws.append(state >> 8)
        points = 2 + draws[0] % (most_points - 1)
        ties = []
        for k in range(draws[1] % (most_ties + 1)):
            one, step, length = draws[2 + 3 * k: 5 + 3 * k]
            one %= points
            ties.append((one, (one + 1 + step % (points - 1)) % points, 1 + length % 9))
        webs.append((points, tuple(ties)))
    return webs


NAMED = [TRIANGLE, TWINS, LONE, LOOSE, TREE, APART, SQUARE, TOUCHING, PAIRS]
# Few enough ties for all sets to be gone through.
SMALL = NAMED + drawn_webs(40, 6, 8)
ALL = SMALL + [BUNCH, FULL] + drawn_webs(20, 10, 24)


# The same webs with ties of one length, so that many rings are as long as one another.
LEVEL = [(web[0], tuple((one, other, 1) for one, other, length in web[1])) for web in SMALL]


def slow_ties(number):
    return [k for k, sign in enumerate(reversed(bin(number)[2:])) if sign == "1"]


def slow_odd(web, ties):
    return [p for p in range(web[0]) if sum((web[1][k][:2]).count(p) for k in ties) % 2]


def slow_reach(web, ties, start):
    reached = {start}
    while True:
        more = {p for k in ties for p in web[1][k][:2] if reached & set(web[1][k][:2])}
        if more <= reached:
            return sorted(reached)
        reached |= more


def slow_pieces(web, ties):
    return sorted({tuple(slow_reach(web, ties, p)) for p in range(web[0])})


def slow_forest(web):
    taken = []
    for k, (one, other, _) in enumerate(web[1]):
        if other not in slow_reach(web, taken, one):
            taken.append(k)
    return taken


def slow_evens(web):
    """All even sets, by looking at every set."""
    return [s for s in range(2 ** len(web[1])) if not slow_odd(web, slow_ties(s))]


def slow_rings(web):
    """All rings: even sets, not empty, within which no other lies but the empty one."""
    evens = [even for even in slow_evens(web) if even]
    return [ring for ring in evens if not any(even & ring == even for even in evens if even != ring)]


def slow_length(web, tie_set):
    return sum(web[1][k][2] for k in slow_ties(tie_set))


def slow_common(one, other):
    return bin(one & other).count("1")


def slow_cut(web, side):
    return sum(2 ** k for k, tie in enumerate(web[1]) if len({tie[0], tie[1]} & set(side)) == 1)


def all_sides(web):
    return [[p for p in range(web[0]) if number >> p & 1] for number in range(2 ** web[0])]


def some_sets(web):
    """Sets of none, some and all ties."""
    last = 2 ** len(web[1]) - 1
    return sorted({0, last, last // 3, last // 2, last * 5 // 7, last & 0b100101101})


def slow_worths(web, marks, start):
    """Least lengths of ways, by rounds over the ties until nothing falls any more."""
    least = {(start, 0): 0}
    fell = True
    while fell:
        fell = False
        for k, (one, other, length) in enumerate(web[1]):
            for part in (0, 1):
                for a, b in ((one, other), (other, one)):
                    there = (b, part ^ (marks >> k & 1))
                    if (a, part) in least and least.get(there, least[a, part] + length + 1) > least[a, part] + length:
                        least[there] = least[a, part] + length
                        fell = True
    return tuple((least.get((p, 0)), least.get((p, 1))) for p in range(web[0]))


def slow_order(web, rings):
    return sorted(rings, key=lambda ring: (slow_length(web, ring), ring))


def slow_sums(sets):
    """Every sum of some of the sets, one for each choice of them."""
    sums = [0]
    for one in sets:
        sums += [one ^ other for other in sums]
    return sums


def slow_span(sets):
    """All sums of some of the sets, each once."""
    span = {0}
    for one in sets:
        span |= {one ^ other for other in span}
    return span


def slow_first_base(web):
    taken = []
    for ring in slow_order(web, slow_rings(web)):
        if ring not in slow_sums(taken):
            taken.append(ring)
    return taken


def slow_stand(web, marks, worths):
    """Whether worths stand for marks, by the document's words."""
    for v in range(web[0]):
        if worths[v][v][0] != 0:
            return False
        for k, (a, b, length) in enumerate(web[1]):
            for s in (0, 1):
                one, other = worths[v][a][s], worths[v][b][1 - s if marks >> k & 1 else s]
                if (one is None) != (other is None):
                    return False
                if one is not None and not -length <= one - other <= length:
                    return False
    return True


def slow_odd_stands(web, marks, answer, rings):
    """Whether an answer stands; rings are all rings of the web."""
    if answer[0] == "side":
        side = answer[1]
        return side == sorted(set(side) & set(range(web[0]))) and slow_cut(web, side) == marks
    ring, worths = answer[1:]
    if ring not in rings or slow_common(ring, marks) % 2 == 0 or not slow_stand(web, marks, worths):
        return False
    owns = [worths[v][v][1] for v in range(web[0])]
    return all(own is None or own >= slow_length(web, ring) for own in owns)


def slow_told(web, base, rings):
    """Whether a tuple of triples is a told base; rings are all rings of the web."""
    owns = [ring for ring, marks, worths in base]
    rank = len(web[1]) - web[0] + len(slow_pieces(web, range(len(web[1]))))
    if len(owns) != rank or any(ring not in rings for ring in owns) or slow_sums(owns).count(0) != 1:
        return False
    if owns != slow_order(web, owns):
        return False
    for i, ring in enumerate(owns):
        for j, (_, marks, _) in enumerate(base):
            if not 0 <= marks < 2 ** len(web[1]) or slow_common(ring, marks) % 2 != (i == j):
                return False
    return all(slow_odd_stands(web, marks, ("ring", ring, worths), rings) for ring, marks, worths in base)


def put_otherwise(value, path, new):
    """A copy of nested tuples with one part put otherwise."""
    if not path:
        return new
    inner = put_otherwise(value[path[0]], path[1:], new)
    return value[:path[0]] + type(value)([inner]) + value[path[0] + 1:]


def other_worths(worths):
    """The worths with one number put otherwise, all those ways."""
    for v, of_point in enumerate(worths):
        for p, pair in enumerate(of_point):
            for s, worth in enumerate(pair):
                if worth is None:
                    news = [0, 1, -1, 10 ** 59]
                else:
                    news = [None, worth + 1, worth - 1, -worth - 1, worth + 10 ** 31, 0]
                for new in news:
                    if new != worth:
                        yield put_otherwise(worths, (v, p, s), new)


def added(sets):
    total = 0
    for one in sets:
        total ^= one
    return total


def wrong_sets(web):
    many = len(web[1])
    return [-1, -2, -10 ** 59, 2 ** many, 2 ** many + 1, 2 ** (many + 1), 2 ** (many + 40), 10 ** 60 - 1]
