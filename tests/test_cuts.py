import unittest

from ringbase.cuts import common, cut_of, side_judged, side_of
from ringbase.errors import BadPoint, BadSet
from ringbase.evens import even_numbered
from ringbase.rings import is_ring
from ringbase.webs import rank
from tests import samples
from tests.refusing import Refusing
from tests.samples import APART, BIG, BUNCH, FULL, LONE, LOOSE, SQUARE, TREE, TRIANGLE, TWINS


def leasts(web):
    return [piece[0] for piece in samples.slow_pieces(web, range(len(web[1])))]


def some_sides(web):
    points = list(range(web[0]))
    return [[], points, points[::2], points[1::2], points[1:], points[:1], points[2:5]]


def wrong_sides(web):
    last = web[0] - 1
    return [[-1], [last + 1], [0, 0], [last, last], [0, last + 1], [-1, 0], [-2, -1], [10 ** 59], [-10 ** 59],
            list(range(web[0])) + [last], list(range(web[0])) + [0], list(range(web[0] + 1))]


FALLING = [[1, 0], [2, 1, 0], [0, 2, 1], [1, 0, 2], [0, 1, 1], [0, 1, 0]]


class Common(Refusing):
    def test_against_the_slow_one(self):
        numbers = [0, 1, 2, 3, 5, 0b1011, 2 ** 24 - 1, 2 ** 198, 2 ** 199 - 1, 10 ** 60 - 1, 123456789 ** 7]
        for one in numbers:
            for other in numbers:
                self.assertEqual(common(one, other), len(set(samples.slow_ties(one)) & set(samples.slow_ties(other))))
                self.plain(common(one, other))

    def test_an_even_set_and_a_cut_have_an_even_number_in_common(self):
        for web in samples.ALL:
            last = 2 ** rank(web) - 1
            for number in {last, last // 3, last * 5 // 7}:
                for side in some_sides(web):
                    self.assertEqual(common(even_numbered(web, number), cut_of(web, side)) % 2, 0)


class CutOf(Refusing):
    def test_known_ones(self):
        self.assertEqual(cut_of(TRIANGLE, [1]), 0b011)
        self.assertEqual(cut_of(TRIANGLE, [0, 2]), 0b011)
        self.assertEqual(cut_of(SQUARE, [0, 1]), 0b111100)
        self.assertEqual(cut_of(APART, [3]), 0)
        self.assertEqual(cut_of(APART, [0, 4]), 0b1100111)
        self.assertEqual(cut_of(BUNCH, [1]), 2 ** 24 - 1)

    def test_the_empty_side_and_all_points(self):
        for web in samples.ALL:
            self.assertEqual(cut_of(web, []), 0)
            self.assertEqual(cut_of(web, list(range(web[0]))), 0)

    def test_all_sides_of_small_webs(self):
        for web in samples.SMALL:
            if web[0] <= 7:
                for side in samples.all_sides(web):
                    self.assertEqual(cut_of(web, side), samples.slow_cut(web, side))

    def test_some_sides_of_great_webs(self):
        for web in samples.ALL:
            for side in some_sides(web):
                self.assertEqual(self.own(cut_of, web, side), samples.slow_cut(web, side))

    def test_lists_that_are_no_side(self):
        for web in samples.ALL:
            for wrong in wrong_sides(web):
                self.refused(BadPoint, cut_of, web, wrong)
        for wrong in FALLING:
            self.refused(BadPoint, cut_of, SQUARE, wrong)


class SideOf(Refusing):
    def test_known_ones(self):
        self.assertEqual(side_of(TRIANGLE, 0b011), ("side", [1]))
        self.assertEqual(side_of(TRIANGLE, 0b110), ("side", [2]))
        self.assertEqual(side_of(TRIANGLE, 0b111), ("ring", 0b111))
        self.assertEqual(side_of(TRIANGLE, 0b001), ("ring", 0b111))
        self.assertEqual(side_of(TREE, 0b100), ("side", [2]))
        self.assertEqual(side_of(TREE, 0b010), ("side", [1, 2, 3]))
        self.assertEqual(side_of(LONE, 0), ("side", []))
        self.assertEqual(side_of(LOOSE, 0), ("side", []))
        self.assertEqual(side_of(APART, 0b1110110), ("side", [1, 2, 5]))
        self.assertEqual(side_of(TWINS, 0b111), ("side", [1]))

    def test_a_cut_is_told_without_the_least_points(self):
        for web in samples.ALL:
            for side in some_sides(web):
                cut = samples.slow_cut(web, side)
                form, told = self.own(side_of, web, cut)
                self.assertEqual((form, samples.slow_cut(web, told)), ("side", cut))
                self.assertEqual(told, sorted(set(told) & set(range(web[0]))))
                self.assertEqual(set(told) & set(leasts(web)), set())

    def test_there_is_just_one_such_side(self):
        for web in samples.SMALL:
            if web[0] <= 6:
                lows = set(leasts(web))
                sides = [side for side in samples.all_sides(web) if not lows & set(side)]
                cuts = [samples.slow_cut(web, side) for side in sides]
                self.assertEqual(len(set(cuts)), len(cuts))
                for side, cut in zip(sides, cuts):
                    self.assertEqual(side_of(web, cut), ("side", side))

    def test_every_set_of_small_webs(self):
        for web in samples.SMALL:
            rings = samples.slow_rings(web)
            for tie_set in range(2 ** len(web[1])):
                odd = [ring for ring in rings if samples.slow_common(ring, tie_set) % 2]
                form, told = side_of(web, tie_set)
                self.assertEqual(form, "ring" if odd else "side")
                if odd:
                    self.assertIn(told, odd)
                else:
                    self.assertEqual(samples.slow_cut(web, told), tie_set)

    def test_some_sets_of_great_webs(self):
        for web in samples.ALL:
            for tie_set in samples.some_sets(web):
                answer = self.own(side_of, web, tie_set)
                self.assertIs(type(answer), tuple)
                if answer[0] == "ring":
                    self.assertTrue(is_ring(web, answer[1]))
                    self.assertEqual(samples.slow_common(answer[1], tie_set) % 2, 1)
                else:
                    self.assertEqual(samples.slow_cut(web, answer[1]), tie_set)

    def test_wrong_sets(self):
        for web in samples.ALL:
            for wrong in samples.wrong_sets(web):
                self.refused(BadSet, side_of, web, wrong)


class SideJudged(Refusing):
    def test_what_is_told_is_right(self):
        for web in samples.ALL:
            for tie_set in samples.some_sets(web):
                self.assertIs(self.own(side_judged, web, tie_set, side_of(web, tie_set)), True)

    def test_any_side_whose_cut_it_is(self):
        for web in samples.SMALL:
            if web[0] <= 5:
                for tie_set in range(2 ** len(web[1])):
                    for side in samples.all_sides(web):
                        right = samples.slow_cut(web, side) == tie_set
                        self.assertIs(side_judged(web, tie_set, ("side", side)), right)

    def test_any_number_as_a_ring(self):
        for web in samples.SMALL:
            if len(web[1]) <= 6:
                rings = samples.slow_rings(web)
                for tie_set in range(2 ** len(web[1])):
                    for number in range(2 ** len(web[1])):
                        right = number in rings and samples.slow_common(number, tie_set) % 2 == 1
                        self.assertIs(side_judged(web, tie_set, ("ring", number)), right)

    def test_lists_that_are_no_side(self):
        for web in samples.ALL:
            for tie_set in samples.some_sets(web):
                for wrong in wrong_sides(web):
                    self.assertIs(self.own(side_judged, web, tie_set, ("side", wrong)), False)
        cut = cut_of(SQUARE, [1, 2])
        self.assertIs(side_judged(SQUARE, cut, ("side", [1, 2])), True)
        self.assertIs(side_judged(SQUARE, cut, ("side", [0, 3])), True)
        for wrong in ([2, 1], [1, 1, 2], [1, 2, 2], [-3, 1, 2], [1, 2, 4], [1, 2, 10 ** 59], [3, 0]):
            self.assertIs(side_judged(SQUARE, cut, ("side", wrong)), False)

    def test_numbers_that_are_no_ring(self):
        for web in samples.ALL:
            for tie_set in samples.some_sets(web):
                for wrong in samples.wrong_sets(web) + [0]:
                    self.assertIs(side_judged(web, tie_set, ("ring", wrong)), False)
        # Of its ties below 2**3 this has the ring, and beyond them one that is none.
        self.assertIs(side_judged(TRIANGLE, 0b001, ("ring", 0b1111)), False)
        # An even set with one marked tie that is no ring; a ring with two marked ones; a set that is not even.
        self.assertIs(side_judged(APART, 0b0000001, ("ring", 0b0111111)), False)
        self.assertIs(side_judged(TRIANGLE, 0b011, ("ring", 0b111)), False)
        self.assertIs(side_judged(TRIANGLE, 0b001, ("ring", 0b001)), False)

    def test_wrong_sets(self):
        for web in samples.ALL:
            for wrong in samples.wrong_sets(web):
                for answer in (("side", []), ("ring", 0), ("side", [-1]), ("ring", wrong)):
                    self.refused(BadSet, side_judged, web, wrong, answer)

    def test_lengths_do_not_count(self):
        self.assertEqual(side_of(FULL, cut_of(FULL, [3, 7])), ("side", [3, 7]))
        self.assertEqual(side_of((2, ((0, 1, BIG), (1, 0, 1))), 0b11), ("side", [1]))


if __name__ == "__main__":
    unittest.main()
