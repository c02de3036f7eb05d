"""A standing web, whose ties are put and dropped by name, each deed of which can be taken back."""

from ringbase.bases import least_base, lengths
from ringbase.errors import BadWeb, NoDeed
from ringbase.webs import made_web


class Standing:
    """A standing web of so many points, at first without ties."""

    def __init__(self, points):
        # This refuses a count that is none.
        made_web(points, [])
        self.points = points
        self.standing_ties = {}
        self.next_name = 0
        # Pairs of a name and the tie that was dropped, None where the tie was put.
        self.done = []

    def put(self, one, other, length):
        """Puts a tie; its name."""
        tie = (one, other, length)
        try:
            made_web(self.points, self.ties_now() + [tie])
        except BadWeb:
            raise NoDeed("the tie makes no web") from None
        name = self.next_name
        self.standing_ties[name] = tie
        self.next_name = name + 1
        self.done.append((name, None))
        return name

    def drop(self, name):
        """Drops the tie of a name."""
        if name not in self.standing_ties:
            raise NoDeed("no tie that stands bears the name")
        self.done.append((name, self.standing_ties.pop(name)))

    def back(self):
        """Takes the last deed back that was not yet taken back."""
        if len(self.done) == 0:
            raise NoDeed("no deed is left to take back")
        deed = self.done.pop()
        if deed[1] is None:
            # What came later is taken back already, so this is the name that was given last.
            self.standing_ties.pop(deed[0])
            self.next_name = deed[0]
        else:
            self.standing_ties[deed[0]] = deed[1]

    def names(self):
        """The ascending list of the names of the ties that stand."""
        return sorted(self.standing_ties)

    def ties_now(self):
        return [self.standing_ties[name] for name in self.names()]

    def web_now(self):
        """The web of the ties that stand, in the order of their names."""
        return made_web(self.points, self.ties_now())

    def base_now(self):
        """A least base of the web of now."""
        return least_base(self.web_now())

    def lengths_now(self):
        """The rising list of the lengths of a least base of the web of now."""
        return lengths(self.web_now())

    def deeds(self):
        """How many deeds can be taken back."""
        return len(self.done)
