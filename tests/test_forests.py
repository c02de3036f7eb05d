import itertools
import unittest

from ringbase.bases import least_base
from ringbase.errors import BadSet, TooMany
from ringbase.evens import chord_ring, chords, forest
from ringbase.forests import all_forests, forest_many, forests_by_taking, is_forest, points_table
from ringbase.tables import determinant, ring_table, ring_worth
from ringbase.webs import rank
from tests import samples
from tests.refusing import Refusing
from tests.samples import APART, BUNCH, FULL, LONE, LOOSE, SQUARE, TOUCHING, TREE, TRIANGLE, TWINS

FIVE = (5, tuple((one, other, 1) for one, other in itertools.combinations(range(5), 2)))
TWELVE = [(10, FULL[1][:12]), (2, BUNCH[1][:12]), (7, FULL[1][:5] + FULL[1][:5] + ((5, 6, 1), (6, 5, 1))),
          (5, FIVE[1] + ((0, 4, 1), (3, 2, 1)))]
THIRTEEN = [(10, FULL[1][:13]), (2, BUNCH[1][:13]), (5, FIVE[1] + ((0, 4, 1), (3, 2, 1), (0, 1, 1)))]


def slow_is_forest(web, tie_set, rings):
    ties = samples.slow_ties(tie_set)
    if any(ring & tie_set == ring for ring in rings):
        return False
    return samples.slow_pieces(web, ties) == samples.slow_pieces(web, range(len(web[1])))


def slow_forests(web):
    rings = samples.slow_rings(web)
    return [tie_set for tie_set in range(2 ** len(web[1])) if slow_is_forest(web, tie_set, rings)]


class IsForest(Refusing):
    def test_known_ones(self):
        self.assertEqual([is_forest(TRIANGLE, s) for s in range(8)], [s in (0b011, 0b101, 0b110) for s in range(8)])
        self.assertEqual([is_forest(TWINS, s) for s in range(8)], [s in (1, 2, 4) for s in range(8)])
        self.assertIs(is_forest(LONE, 0), True)
        self.assertIs(is_forest(LOOSE, 0), True)
        self.assertEqual([is_forest(TREE, s) for s in (0b111, 0b110, 0)], [True, False, False])
        # As many ties as a forest has, but with a ring, and so with a piece too many.
        self.assertIs(is_forest(TOUCHING, 0b001111), False)
        self.assertIs(is_forest((4, TRIANGLE[1] + ((2, 3, 1),)), 0b0111), False)
        self.assertIs(is_forest(APART, 0b0001111), True)

    def test_every_set_of_small_webs(self):
        for web in samples.SMALL:
            slow = set(slow_forests(web))
            for tie_set in range(2 ** len(web[1])):
                self.assertIs(is_forest(web, tie_set), tie_set in slow)

    def test_the_first_forest_is_one(self):
        for web in samples.ALL:
            self.assertIs(is_forest(web, forest(web)), True)
            for chord in chords(web):
                self.assertIs(is_forest(web, forest(web) | 2 ** chord), False)

    def test_wrong_sets(self):
        for web in samples.ALL:
            for wrong in samples.wrong_sets(web):
                self.refused(BadSet, is_forest, web, wrong)


class PointsTable(Refusing):
    def test_known_ones(self):
        self.assertEqual(points_table(TRIANGLE), [[2, -1], [-1, 2]])
        self.assertEqual(points_table(TWINS), [[3]])
        self.assertEqual(points_table(LONE), [])
        self.assertEqual(points_table(LOOSE), [])
        self.assertEqual(points_table(TREE), [[3, -1, -1], [-1, 1, 0], [-1, 0, 1]])
        # The points 1 and 2 of the one piece, 5 and 6 of the other; 0, 3 and 4 are the least of theirs.
        self.assertEqual(points_table(APART), [[3, -1, 0, 0], [-1, 2, 0, 0], [0, 0, 2, -1], [0, 0, -1, 2]])

    def test_by_the_words(self):
        for web in samples.ALL:
            leasts = [piece[0] for piece in samples.slow_pieces(web, range(len(web[1])))]
            points = [point for point in range(web[0]) if point not in leasts]
            slow = []
            for one in points:
                row = [-sum({one, other} == {tie[0], tie[1]} for tie in web[1]) for other in points]
                row[points.index(one)] = sum(one in tie[:2] for tie in web[1])
                slow.append(row)
            self.assertEqual(self.own(points_table, web), slow)


class Counts(Refusing):
    def test_known_ones(self):
        wanted = {TRIANGLE: 3, TWINS: 3, LONE: 1, LOOSE: 1, TREE: 1, SQUARE: 16, APART: 3 * 5, TOUCHING: 9, FIVE: 125,
                  samples.CROSSED: 81}
        for web, many in wanted.items():
            self.assertEqual(forest_many(web), many)
            self.assertEqual(forests_by_taking(web), many)
            self.assertEqual(len(all_forests(web)), many)
        self.assertEqual(forest_many(BUNCH), 24)

    def test_all_ten_points(self):
        # Each of five points joined to each of five has 5**4 * 5**4 trees; 24 of those ties leave out those with one.
        ties = [(one, 5 + other, 1) for one in range(5) for other in range(5)]
        self.assertEqual(forest_many((10, tuple(ties[1:]))), 5 ** 8 - 5 ** 8 * 9 // 25)

    def test_going_through_all_sets(self):
        for web in samples.SMALL:
            slow = slow_forests(web)
            self.assertEqual(self.own(all_forests, web), slow)
            self.assertEqual(self.own(forest_many, web), len(slow))
            self.assertEqual(self.own(forests_by_taking, web), len(slow))

    def test_by_the_rings_of_a_base(self):
        for web in samples.ALL + samples.LEVEL:
            closed = [chord_ring(web, chord) for chord in chords(web)]
            least = [ring for ring, marks, worths in least_base(web)]
            for rings in (closed, least):
                worth = ring_worth(web, rings)
                self.assertEqual(determinant(ring_table(web, rings)), forest_many(web) * worth * worth)

    def test_by_any_list_of_rings(self):
        for web in [web for web in samples.SMALL if 0 < rank(web) <= 3] + [samples.CROSSED]:
            rings = samples.slow_rings(web)
            rows = itertools.product(rings, repeat=rank(web)) if rank(web) < 4 else [samples.CROSSED_BASE]
            for row in rows:
                worth = ring_worth(web, list(row))
                self.assertEqual(determinant(ring_table(web, list(row))), forest_many(web) * worth * worth)

    def test_both_ways_of_great_webs(self):
        for web in TWELVE:
            self.assertEqual(len(web[1]), 12)
            self.assertEqual(forests_by_taking(web), forest_many(web))
            told = all_forests(web)
            self.assertEqual(len(told), forest_many(web))
            self.assertEqual(told, sorted(set(told)))

    def test_more_than_twelve_ties(self):
        for web in THIRTEEN + [BUNCH, FULL]:
            self.assertGreaterEqual(len(web[1]), 13)
            self.refused(TooMany, forests_by_taking, web)
            self.refused(TooMany, all_forests, web)
            self.assertGreater(forest_many(web), 0)

    def test_a_web_without_ties(self):
        for points in (1, 2, 10):
            web = (points, ())
            self.assertEqual((forest_many(web), forests_by_taking(web), all_forests(web)), (1, 1, [0]))


if __name__ == "__main__":
    unittest.main()
