import copy
import unittest

from ringbase.bases import least_base, lengths
from ringbase.errors import BadWeb, NoDeed
from ringbase.standing import Standing
from ringbase.webs import made_web, pieces, set_of
from tests import samples
from tests.refusing import Refusing, spoil
from tests.samples import BIG


def told_of(standing):
    """All that a standing web tells of now."""
    return (standing.names(), standing.web_now(), standing.base_now(), standing.lengths_now(), standing.deeds())


def filled(web):
    standing = Standing(web[0])
    for tie in web[1]:
        standing.put(*tie)
    return standing


class Model:
    """The same by keeping all that was ahead of each deed."""

    def __init__(self, points):
        self.points, self.ties, self.given, self.ahead = points, {}, 0, []

    def put(self, one, other, length):
        try:
            made_web(self.points, list(self.ties.values()) + [(one, other, length)])
        except BadWeb:
            return None
        self.ahead.append((dict(self.ties), self.given))
        self.ties[self.given] = (one, other, length)
        self.given += 1
        return self.given - 1

    def drop(self, name):
        if name not in self.ties:
            return False
        self.ahead.append((dict(self.ties), self.given))
        del self.ties[name]
        return True

    def back(self):
        if not self.ahead:
            return False
        self.ties, self.given = self.ahead.pop()
        return True


def drawn_deeds(many, seed):
    state = seed
    for _ in range(many):
        draws = []
        for _ in range(4):
            state = (state * 1103515245 + 12345) % 2 ** 31
            draws.append(state >> 8)
        yield draws


class Deeds(Refusing):
    def test_a_new_one(self):
        for points in (1, 2, 10):
            standing = Standing(points)
            self.assertEqual(told_of(standing), ([], (points, ()), (), [], 0))

    def test_counts_that_are_none(self):
        for points in (0, -1, 11, 12, 10 ** 59, -10 ** 59):
            self.refused(BadWeb, Standing, points)

    def test_known_row_of_deeds(self):
        standing = Standing(3)
        self.assertEqual([standing.put(0, 1, 5), standing.put(1, 2, 6), standing.put(2, 0, 7)], [0, 1, 2])
        self.assertEqual(standing.lengths_now(), [18])
        self.assertIsNone(standing.drop(1))
        self.assertEqual(standing.names(), [0, 2])
        self.assertEqual(standing.web_now(), (3, ((0, 1, 5), (2, 0, 7))))
        self.assertEqual((standing.lengths_now(), standing.base_now(), standing.deeds()), ([], (), 4))
        # A dropped tie's name is not given again.
        self.assertEqual(standing.put(1, 0, 2), 3)
        self.assertEqual(standing.web_now(), (3, ((0, 1, 5), (2, 0, 7), (1, 0, 2))))
        self.assertEqual(standing.lengths_now(), [7])
        # That of a tie whose putting is taken back is.
        self.assertIsNone(standing.back())
        self.assertEqual(standing.put(2, 1, 1), 3)
        self.assertIsNone(standing.back())
        # The dropped tie stands again under its name, in its old place.
        self.assertIsNone(standing.back())
        self.assertEqual(standing.names(), [0, 1, 2])
        self.assertEqual(standing.web_now(), (3, ((0, 1, 5), (1, 2, 6), (2, 0, 7))))
        self.assertEqual((standing.deeds(), standing.put(0, 1, BIG)), (3, 3))

    def test_all_taken_back(self):
        standing = filled(samples.SQUARE)
        for name in (3, 0, 5):
            standing.drop(name)
        for left in range(8, -1, -1):
            standing.back()
            self.assertEqual(standing.deeds(), left)
        self.refused(NoDeed, standing.back)
        self.assertEqual(told_of(standing), ([], (4, ()), (), [], 0))
        self.assertEqual(standing.put(0, 1, 1), 0)

    def test_dropping_and_putting_back_and_forth(self):
        standing = Standing(2)
        for _ in range(3):
            self.assertEqual(standing.put(0, 1, 4), 0)
            standing.drop(0)
            self.refused(NoDeed, standing.drop, 0)
            standing.back()
            self.assertEqual(standing.names(), [0])
            standing.drop(0)
            self.assertEqual(standing.put(1, 0, 4), 1)
            for _ in range(3):
                standing.back()

    def test_against_the_model(self):
        for seed in range(12):
            points = 2 + seed % 6
            standing, model = Standing(points), Model(points)
            for kind, one, other, length in drawn_deeds(60, seed * 77 + 5):
                if kind % 10 < 5:
                    tie = (one % (points + 1), other % points, length % 12)
                    name = model.put(*tie)
                    if name is None:
                        self.refused(NoDeed, standing.put, *tie)
                    else:
                        self.assertEqual(standing.put(*tie), name)
                elif kind % 10 < 8:
                    name = one % (model.given + 1)
                    if model.drop(name):
                        self.assertIsNone(standing.drop(name))
                    else:
                        self.refused(NoDeed, standing.drop, name)
                elif model.back():
                    self.assertIsNone(standing.back())
                else:
                    self.refused(NoDeed, standing.back)
                names = sorted(model.ties)
                web = (points, tuple(model.ties[name] for name in names))
                self.assertEqual(told_of(standing), (names, web, least_base(web), lengths(web), len(model.ahead)))

    def test_twenty_four_ties_and_the_next(self):
        standing = filled(samples.BUNCH)
        before = told_of(standing)
        self.refused(NoDeed, standing.put, 0, 1, 1)
        self.assertEqual(told_of(standing), before)
        standing.drop(7)
        self.assertEqual(standing.put(0, 1, 1), 24)
        self.refused(NoDeed, standing.put, 0, 1, 1)
        standing.back()
        standing.back()
        self.assertEqual(told_of(standing), before)

    def test_ties_that_make_no_web(self):
        for web in (samples.LONE, samples.TRIANGLE, samples.APART):
            standing = filled(web)
            before = told_of(standing)
            last = web[0] - 1
            wrong = [(0, 0, 1), (last, last, 1), (-1, 0, 1), (0, -1, 1), (0, last + 1, 1), (last + 1, 0, 1)]
            wrong += [(0, last, 0), (0, last, -1), (0, last, BIG + 1), (0, last, 10 ** 59), (10 ** 59, 0, 1)]
            for tie in wrong:
                self.refused(NoDeed, standing.put, *tie)
                self.assertEqual(told_of(standing), before)
            if last:
                self.assertEqual(standing.put(0, last, BIG), len(web[1]))

    def test_names_that_no_standing_tie_bears(self):
        standing = filled(samples.TRIANGLE)
        standing.drop(1)
        before = told_of(standing)
        for name in (-1, 1, 3, 4, 10 ** 59, -10 ** 59):
            self.refused(NoDeed, standing.drop, name)
            self.assertEqual(told_of(standing), before)

    def test_what_is_refused_is_no_deed(self):
        standing = Standing(2)
        standing.put(0, 1, 1)
        self.refused(NoDeed, standing.put, 0, 0, 1)
        self.refused(NoDeed, standing.drop, 5)
        self.assertEqual(standing.deeds(), 1)
        standing.back()
        self.assertEqual((standing.names(), standing.deeds()), ([], 0))
        self.refused(NoDeed, standing.back)

    def test_the_base_of_now(self):
        for web in samples.ALL:
            standing = filled(web)
            self.assertEqual(standing.web_now(), web)
            self.assertEqual(standing.base_now(), least_base(web))
            self.assertEqual(standing.lengths_now(), lengths(web))
            self.assertEqual(standing.deeds(), len(web[1]))


class Lengths(Refusing):
    def lengths_go_on(self, standing, before, joined):
        after = standing.lengths_now()
        if joined:
            self.assertEqual(len(after), len(before) + 1)
            self.assertTrue(all(new <= old for new, old in zip(after, before)))
        else:
            self.assertEqual(after, before)
        self.assertEqual(after, sorted(after))

    def test_putting_ties(self):
        for web in samples.ALL:
            standing = Standing(web[0])
            for place, tie in enumerate(web[1]):
                before = standing.lengths_now()
                over = pieces(web, set_of(web, list(range(place))))
                joined = any(tie[0] in piece and tie[1] in piece for piece in over)
                standing.put(*tie)
                self.lengths_go_on(standing, before, joined)

    def test_dropping_ties(self):
        for web in samples.SMALL:
            standing = filled(web)
            for name in standing.names()[::2] + standing.names()[1::2]:
                before = standing.lengths_now()
                tie = standing.web_now()[1][standing.names().index(name)]
                standing.drop(name)
                now = standing.web_now()
                over = pieces(now, 2 ** len(now[1]) - 1)
                joined = any(tie[0] in piece and tie[1] in piece for piece in over)
                after = standing.lengths_now()
                standing.back()
                self.lengths_go_on(standing, after, joined)
                self.assertEqual(standing.lengths_now(), before)
                standing.drop(name)

    def test_against_the_slow_one(self):
        standing = Standing(5)
        for tie in samples.TOUCHING[1] + ((0, 3, 2), (1, 4, 2)):
            standing.put(*tie)
            web = standing.web_now()
            slow = [samples.slow_length(web, ring) for ring in samples.slow_first_base(web)]
            self.assertEqual(standing.lengths_now(), slow)


class Own(Refusing):
    def test_two_standing_webs_do_not_touch(self):
        one, other = filled(samples.TRIANGLE), filled(samples.TRIANGLE)
        before = told_of(other)
        one.drop(0)
        one.put(0, 1, 9)
        one.put(0, 2, 9)
        self.assertEqual(told_of(other), before)
        other.back()
        self.assertEqual((one.names(), other.names()), ([1, 2, 3, 4], [0, 1]))

    def test_what_is_told_is_the_askers_own(self):
        standing = filled(samples.SQUARE)
        before = told_of(standing)
        kept = copy.deepcopy(before)
        spoil(told_of(standing))
        self.assertEqual(told_of(standing), kept)
        self.plain(standing.base_now(), type(None))
        standing.drop(2)
        standing.put(0, 3, 1)
        self.assertEqual(before, kept)
        # Told alike, however often it is asked.
        self.assertEqual(told_of(standing), told_of(standing))


if __name__ == "__main__":
    unittest.main()
