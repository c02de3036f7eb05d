import unittest

from ringbase.errors import BadSet, NotEven, NotRing
from ringbase.evens import chord_ring, chords, even_numbered
from ringbase.rings import is_ring, parted, walked
from ringbase.webs import rank
from tests import samples
from tests.refusing import Refusing
from tests.samples import APART, BUNCH, FULL, LONE, PAIRS, SQUARE, TOUCHING, TRIANGLE, TWINS

# A ring of ten ties told in no order, some of them backwards.
LONG = (10, ((7, 2, 1), (0, 5, 1), (9, 7, 1), (3, 5, 1), (2, 8, 1), (9, 0, 1), (4, 3, 1), (6, 8, 1), (1, 4, 1),
             (1, 6, 1)))


class IsRing(Refusing):
    def test_known_ones(self):
        self.assertIs(is_ring(TRIANGLE, 0b111), True)
        self.assertIs(is_ring(TRIANGLE, 0b011), False)
        self.assertIs(is_ring(TRIANGLE, 0), False)
        self.assertIs(is_ring(LONE, 0), False)
        self.assertIs(is_ring(LONG, 2 ** 10 - 1), True)
        self.assertIs(is_ring(FULL, 2 ** 10 - 1), True)

    def test_a_ring_of_two_ties(self):
        self.assertIs(is_ring(TWINS, 0b011), True)
        self.assertIs(is_ring(TWINS, 0b111), False)
        self.assertIs(is_ring(BUNCH, 0b11), True)
        self.assertIs(is_ring(BUNCH, 0b1111), False)

    def test_a_point_touched_twice_makes_none(self):
        self.assertEqual([is_ring(TOUCHING, s) for s in (0b000111, 0b111000, 0b111111)], [True, True, False])
        self.assertEqual([is_ring(PAIRS, s) for s in (0b0101, 0b1010, 0b1111)], [True, True, False])

    def test_two_apart_are_none(self):
        self.assertEqual([is_ring(APART, s) for s in (0b0010101, 0b0101010, 0b0111111)], [True, True, False])

    def test_every_set_of_small_webs(self):
        for web in samples.SMALL:
            rings = set(samples.slow_rings(web))
            for tie_set in range(2 ** len(web[1])):
                self.assertIs(is_ring(web, tie_set), tie_set in rings)

    def test_the_rings_of_chords(self):
        for web in samples.ALL:
            for chord in chords(web):
                self.assertIs(is_ring(web, chord_ring(web, chord)), True)

    def test_wrong_sets(self):
        for web in samples.ALL:
            for wrong in samples.wrong_sets(web):
                self.refused(BadSet, is_ring, web, wrong)


class Walked(Refusing):
    def walk_is_right(self, web, ring, walk):
        self.assertEqual(sorted(tie for tie, way in walk), samples.slow_ties(ring))
        self.assertEqual(walk[0], (min(samples.slow_ties(ring)), 1))
        self.assertEqual(({type(step) for step in walk}, {way for tie, way in walk} - {1, -1}), ({tuple}, set()))
        ends = [web[1][tie][:2][::way] for tie, way in walk]
        for place, (begun, come_to) in enumerate(ends):
            self.assertEqual(ends[place - 1][1], begun)
        self.assertEqual(len({come_to for begun, come_to in ends}), len(ends))

    def test_known_ones(self):
        self.assertEqual(walked(TRIANGLE, 0b111), [(0, 1), (1, 1), (2, 1)])
        self.assertEqual(walked(SQUARE, 0b001111), [(0, 1), (2, 1), (1, 1), (3, 1)])
        self.assertEqual(walked(SQUARE, 0b100110), [(1, 1), (5, -1), (2, 1)])
        self.assertEqual(walked(TOUCHING, 0b111000), [(3, 1), (4, -1), (5, 1)])

    def test_a_ring_of_two_ties(self):
        self.assertEqual(walked(TWINS, 0b011), [(0, 1), (1, 1)])
        self.assertEqual(walked(TWINS, 0b101), [(0, 1), (2, -1)])
        self.assertEqual(walked(TWINS, 0b110), [(1, 1), (2, 1)])
        self.assertEqual(walked(PAIRS, 0b0101), [(0, 1), (2, 1)])

    def test_a_long_one(self):
        walk = [(0, 1), (4, 1), (7, -1), (9, -1), (8, 1), (6, 1), (3, 1), (1, -1), (5, -1), (2, 1)]
        self.assertEqual(walked(LONG, 2 ** 10 - 1), walk)

    def test_the_words_hold_for_every_ring(self):
        for web in samples.SMALL:
            for ring in samples.slow_rings(web):
                self.walk_is_right(web, ring, self.own(walked, web, ring))
        for web in samples.ALL:
            for chord in chords(web):
                ring = chord_ring(web, chord)
                self.walk_is_right(web, ring, self.own(walked, web, ring))

    def test_sets_that_are_no_ring(self):
        for web in samples.SMALL:
            rings = set(samples.slow_rings(web))
            for tie_set in range(2 ** len(web[1])):
                if tie_set not in rings:
                    self.refused(NotRing, walked, web, tie_set)

    def test_bad_set_goes_ahead_of_not_ring(self):
        for web in samples.ALL:
            for wrong in samples.wrong_sets(web):
                self.refused(BadSet, walked, web, wrong)
        self.refused(BadSet, walked, TRIANGLE, 0b1111)


class Parted(Refusing):
    def parting_is_right(self, web, even, told, rings=None):
        self.assertEqual(told, sorted(told))
        self.assertEqual(samples.added(told), even)
        self.assertEqual(sum(told), even)
        for ring in told:
            self.assertTrue(ring in rings if rings is not None else is_ring(web, ring))
        for place, one in enumerate(told):
            self.assertEqual([other for other in told[place + 1:] if one & other], [])

    def test_known_ones(self):
        self.assertEqual(parted(TRIANGLE, 0b111), [0b111])
        self.assertEqual(parted(TOUCHING, 0b111111), [0b000111, 0b111000])
        self.assertEqual(parted(PAIRS, 0b1111), [0b0101, 0b1010])
        self.assertEqual(parted(APART, 0b0111111), [0b0010101, 0b0101010])

    def test_the_empty_set(self):
        for web in samples.ALL:
            self.assertEqual(self.own(parted, web, 0), [])

    def test_every_even_set_of_small_webs(self):
        for web in samples.SMALL:
            rings = set(samples.slow_rings(web))
            for even in samples.slow_evens(web):
                self.parting_is_right(web, even, self.own(parted, web, even), rings)

    def test_even_sets_of_great_webs(self):
        for web in samples.ALL:
            last = 2 ** rank(web) - 1
            for number in sorted({last, last // 2, last // 3, last * 5 // 7}):
                even = even_numbered(web, number)
                self.parting_is_right(web, even, self.own(parted, web, even))
        self.assertEqual(len(parted(BUNCH, 2 ** 24 - 1)), 12)

    def test_sets_that_are_not_even(self):
        for web in samples.SMALL:
            for tie_set in range(2 ** len(web[1])):
                odd = samples.slow_odd(web, samples.slow_ties(tie_set))
                if odd:
                    self.assertEqual(self.refused(NotEven, parted, web, tie_set).point, odd[0])

    def test_bad_set_goes_ahead_of_not_even(self):
        for web in samples.ALL:
            for wrong in samples.wrong_sets(web):
                self.refused(BadSet, parted, web, wrong)
        self.refused(BadSet, parted, TRIANGLE, 0b1001)


if __name__ == "__main__":
    unittest.main()
