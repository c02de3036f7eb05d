import unittest

from ringbase.errors import BadPoint, BadSet
from ringbase.oddways import odd_ways
from tests import samples
from tests.refusing import Refusing
from tests.samples import APART, BIG, FULL, LONE, LOOSE, TREE, TRIANGLE, TWINS


class OddWays(Refusing):
    def test_known_ones(self):
        self.assertEqual(odd_ways(TRIANGLE, 0b001, 0), ((0, 9), (7, 2), (4, 5)))
        self.assertEqual(odd_ways(TRIANGLE, 0b011, 0), ((0, None), (None, 2), (4, None)))
        self.assertEqual(odd_ways(TWINS, 0b100, 0), ((0, 8), (1, 7)))
        self.assertEqual(odd_ways(LONE, 0, 0), ((0, None),))
        self.assertEqual(odd_ways(TREE, 0b010, 3), ((None, 3), (1, None), (4, None), (0, None)))

    def test_no_marks(self):
        self.assertEqual(odd_ways(TRIANGLE, 0, 1), ((2, None), (0, None), (3, None)))
        for web in samples.ALL:
            for pair in odd_ways(web, 0, web[0] - 1):
                self.assertIsNone(pair[1])

    def test_no_way_to_other_pieces(self):
        none = (None, None)
        self.assertEqual(odd_ways(APART, 0b0000001, 4), (none, none, none, none, (0, 9), (3, 6), (8, 1)))
        self.assertEqual(odd_ways(LOOSE, 0, 7), (none,) * 7 + ((0, None),) + (none,) * 2)

    def test_a_tie_gone_to_and_fro_counts_twice(self):
        # The odd ring hangs at the far end of a tie, which the way from 0 to 0 goes twice.
        web = (4, ((0, 1, 5), (1, 2, 1), (2, 3, 1), (3, 1, 1)))
        self.assertEqual(odd_ways(web, 0b0100, 0), ((0, 13), (5, 8), (6, 7), (6, 7)))

    def test_great_lengths(self):
        web = (3, ((0, 1, BIG), (1, 2, BIG - 1), (2, 0, BIG)))
        self.assertEqual(odd_ways(web, 0b100, 0), ((0, 3 * BIG - 1), (BIG, 2 * BIG - 1), (2 * BIG - 1, BIG)))
        for marks in samples.some_sets(FULL):
            self.assertEqual(odd_ways(FULL, marks, 3), samples.slow_worths(FULL, marks, 3))

    def test_all_marks_of_small_webs(self):
        for web in samples.SMALL:
            if len(web[1]) <= 6:
                for marks in range(2 ** len(web[1])):
                    for point in range(web[0]):
                        self.assertEqual(odd_ways(web, marks, point), samples.slow_worths(web, marks, point))

    def test_marks_of_none_some_and_all_ties(self):
        for web in samples.ALL:
            for marks in samples.some_sets(web):
                for point in range(web[0]):
                    told = self.own(odd_ways, web, marks, point)
                    self.assertEqual(told, samples.slow_worths(web, marks, point))
                    self.assertEqual(({type(told)} | {type(pair) for pair in told}), {tuple})
                    self.plain(told, type(None))

    def test_wrong_sets(self):
        for web in samples.ALL:
            for wrong in samples.wrong_sets(web):
                self.refused(BadSet, odd_ways, web, wrong, 0)

    def test_wrong_points(self):
        for web in samples.ALL:
            for wrong in (-1, web[0], web[0] + 1, -web[0], 10 ** 59, -10 ** 59):
                for marks in samples.some_sets(web):
                    self.refused(BadPoint, odd_ways, web, marks, wrong)

    def test_bad_set_goes_ahead_of_bad_point(self):
        for web in samples.ALL:
            for wrong in samples.wrong_sets(web):
                self.refused(BadSet, odd_ways, web, wrong, -1)
                self.refused(BadSet, odd_ways, web, wrong, web[0])


if __name__ == "__main__":
    unittest.main()
