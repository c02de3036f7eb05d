import unittest

from ringbase.allrings import all_rings, first_base
from ringbase.bases import is_base, lengths
from ringbase.errors import TooMany
from ringbase.webs import rank
from tests import samples
from tests.refusing import Refusing
from tests.samples import APART, BIG, BUNCH, FULL, LONE, LOOSE, SQUARE, TREE, TRIANGLE, TWINS


def wheel(spokes):
    """A hub, so many points round it, and the ties of the rim: a web of rank `spokes`."""
    rim = [(1 + k, 1 + (k + 1) % spokes, 2) for k in range(spokes)]
    return (spokes + 1, tuple([(0, 1 + k, 1 + k % 2) for k in range(spokes)] + rim))


def bunch(ties):
    return (2, tuple((0, 1, 1 + k * 5 % 7) for k in range(ties)))


RANK_8 = [wheel(8), bunch(9), (10, FULL[1][:17])]
RANK_9 = [wheel(9), bunch(10), (10, FULL[1][:18])]


class AllRings(Refusing):
    def test_known_ones(self):
        self.assertEqual(all_rings(TRIANGLE), [0b111])
        self.assertEqual(all_rings(TWINS), [0b101, 0b011, 0b110])
        self.assertEqual(all_rings(APART), [0b0010101, 0b0101010, 0b1001010, 0b1100000])
        # They are 10, 12, 12, 16, 16, 22 and 24 long.
        rings = [0b001111, 0b011010, 0b100110, 0b010101, 0b101001, 0b111100, 0b110011]
        self.assertEqual(all_rings(SQUARE), rings)

    def test_rank_nought(self):
        for web in (LONE, LOOSE, TREE):
            self.assertEqual(all_rings(web), [])
            self.assertEqual(first_base(web), [])

    def test_against_the_slow_one(self):
        for web in samples.SMALL + samples.LEVEL:
            if rank(web) <= 8:
                slow = samples.slow_order(web, samples.slow_rings(web))
                self.assertEqual(self.own(all_rings, web), slow)

    def test_rank_eight(self):
        for web in RANK_8:
            self.assertEqual(rank(web), 8)
            told = self.own(all_rings, web)
            self.assertEqual(told, samples.slow_order(web, told))
            self.assertEqual(len(set(told)), len(told))
        self.assertEqual(len(all_rings(bunch(9))), 36)
        # A wheel of n spokes has n * (n - 1) + 1 rings.
        self.assertEqual(len(all_rings(wheel(8))), 57)
        self.assertEqual(all_rings(bunch(9)), samples.slow_order(bunch(9), samples.slow_rings(bunch(9))))

    def test_rank_nine_and_more(self):
        for web in RANK_9 + [BUNCH, FULL]:
            self.assertGreaterEqual(rank(web), 9)
            self.refused(TooMany, all_rings, web)
            self.refused(TooMany, first_base, web)

    def test_many_ties_of_small_rank(self):
        web = (10, FULL[1][:10])
        self.assertEqual(all_rings(web), [2 ** 10 - 1])

    def test_great_lengths(self):
        web = (2, ((0, 1, BIG), (1, 0, BIG), (0, 1, BIG - 1), (0, 1, BIG)))
        self.assertEqual(all_rings(web), [0b0101, 0b0110, 0b1100, 0b0011, 0b1001, 0b1010])


class FirstBase(Refusing):
    def test_known_ones(self):
        self.assertEqual(first_base(TRIANGLE), [0b111])
        self.assertEqual(first_base(TWINS), [0b101, 0b011])
        self.assertEqual(first_base(SQUARE), [0b001111, 0b011010, 0b100110])

    def test_against_the_slow_one(self):
        for web in samples.SMALL + samples.LEVEL:
            if rank(web) <= 8:
                self.assertEqual(self.own(first_base, web), samples.slow_first_base(web))

    def test_it_is_a_base_with_the_lengths_of_a_least_one(self):
        for web in RANK_8 + [web for web in samples.ALL + samples.LEVEL if rank(web) <= 8]:
            told = first_base(web)
            self.assertIs(is_base(web, told), True)
            self.assertEqual([samples.slow_length(web, ring) for ring in told], lengths(web))


if __name__ == "__main__":
    unittest.main()
