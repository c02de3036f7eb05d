import copy
import unittest

from ringbase.errors import BadSet, NoChord, NoSuch, NotEven
from ringbase.evens import by_chords, chord_ring, chords, even_numbered, forest, is_even, number_of_even
from ringbase.webs import made_web, rank
from tests import samples
from tests.refusing import Refusing


class Evens(Refusing):
    def test_known_ones(self):
        self.assertIs(is_even(samples.TRIANGLE, 0), True)
        self.assertIs(is_even(samples.TRIANGLE, 0b111), True)
        self.assertIs(is_even(samples.TRIANGLE, 0b110), False)
        self.assertIs(is_even(samples.TWINS, 0b110), True)
        self.assertIs(is_even(samples.TWINS, 0b111), False)
        self.assertIs(is_even(samples.LONE, 0), True)
        self.assertIs(is_even(samples.BUNCH, 2 ** 24 - 1), True)
        self.assertIs(is_even(samples.BUNCH, 2 ** 23 - 1), False)

    def test_every_set_of_small_webs(self):
        for web in samples.SMALL:
            evens = set(samples.slow_evens(web))
            for tie_set in range(2 ** len(web[1])):
                self.assertIs(is_even(web, tie_set), tie_set in evens)

    def test_sums_of_even_sets_are_even(self):
        for web in samples.ALL:
            last = 2 ** rank(web) - 1
            one, other = even_numbered(web, last // 3), even_numbered(web, last * 2 // 5)
            self.assertIs(is_even(web, one ^ other), True)


class FirstForest(Refusing):
    def test_known_ones(self):
        self.assertEqual([forest(samples.TRIANGLE), chords(samples.TRIANGLE)], [0b011, [2]])
        self.assertEqual([forest(samples.TWINS), chords(samples.TWINS)], [0b001, [1, 2]])
        self.assertEqual([forest(samples.APART), chords(samples.APART)], [0b0001111, [4, 5, 6]])
        self.assertEqual([forest(samples.SQUARE), chords(samples.SQUARE)], [0b000111, [3, 4, 5]])
        self.assertEqual([forest(samples.BUNCH), chords(samples.BUNCH)], [1, list(range(1, 24))])

    def test_webs_of_rank_nought(self):
        for web in (samples.LONE, samples.LOOSE, samples.TREE):
            self.assertEqual(forest(web), 2 ** len(web[1]) - 1)
            self.assertEqual(chords(web), [])

    def test_against_the_slow_one(self):
        for web in samples.ALL:
            slow = samples.slow_forest(web)
            self.assertEqual(forest(web), sum(2 ** k for k in slow))
            self.assertEqual(chords(web), [k for k in range(len(web[1])) if k not in slow])
            self.assertEqual(len(chords(web)), rank(web))

    def test_what_is_told_is_the_askers_own(self):
        told = chords(samples.SQUARE)
        self.plain(told)
        told.clear()
        self.assertEqual(chords(samples.SQUARE), [3, 4, 5])


class ChordRings(Refusing):
    def test_known_ones(self):
        self.assertEqual(chord_ring(samples.TRIANGLE, 2), 0b111)
        self.assertEqual(chord_ring(samples.TWINS, 1), 0b011)
        self.assertEqual(chord_ring(samples.TWINS, 2), 0b101)
        self.assertEqual([chord_ring(samples.APART, k) for k in (4, 5, 6)], [0b0010101, 0b0101010, 0b1001010])
        self.assertEqual([chord_ring(samples.SQUARE, k) for k in (3, 4, 5)], [0b001111, 0b010101, 0b100110])

    def test_each_has_its_chord_and_else_forest_alone(self):
        for web in samples.ALL:
            tied = samples.slow_forest(web)
            for chord in chords(web):
                ties = samples.slow_ties(chord_ring(web, chord))
                self.assertIn(chord, ties)
                self.assertEqual([k for k in ties if k not in tied], [chord])
                self.assertEqual(samples.slow_odd(web, ties), [])

    def test_each_is_a_ring(self):
        for web in samples.SMALL:
            evens = samples.slow_evens(web)
            for chord in chords(web):
                ring = chord_ring(web, chord)
                self.assertEqual([even for even in evens if even & ring == even], [0, ring])

    def test_numbers_that_are_no_chord(self):
        for web in samples.ALL:
            for wrong in samples.slow_forest(web) + [-1, len(web[1]), len(web[1]) + 1, -10 ** 59, 10 ** 59]:
                self.refused(NoChord, chord_ring, web, wrong)


class ByChords(Refusing):
    def test_known_ones(self):
        self.assertEqual(by_chords(samples.SQUARE, 0), [])
        self.assertEqual(by_chords(samples.SQUARE, 0b011010), [3, 4])
        self.assertEqual(by_chords(samples.APART, 0b1100000), [5, 6])
        self.assertEqual(by_chords(samples.BUNCH, 2 ** 24 - 1), list(range(1, 24)))

    def test_an_even_set_is_the_sum_of_the_rings_of_its_chords(self):
        for web in samples.SMALL:
            for even in samples.slow_evens(web):
                told = by_chords(web, even)
                self.assertEqual(told, sorted(set(told) & set(chords(web))))
                self.assertEqual(samples.added(chord_ring(web, k) for k in told), even)

    def test_what_is_told_is_the_askers_own(self):
        told = by_chords(samples.SQUARE, 0b011010)
        kept = copy.copy(told)
        self.plain(told)
        told.append(0)
        self.assertEqual(by_chords(samples.SQUARE, 0b011010), kept)


class Numbered(Refusing):
    def test_known_ones(self):
        told = [even_numbered(samples.SQUARE, number) for number in range(8)]
        rings = [0b001111, 0b010101, 0b100110]
        sums = [0, rings[0], rings[1], rings[0] ^ rings[1], rings[2], rings[0] ^ rings[2], rings[1] ^ rings[2]]
        self.assertEqual(told, sums + [rings[0] ^ rings[1] ^ rings[2]])

    def test_all_even_sets_have_one_number_each(self):
        for web in samples.SMALL:
            told = [even_numbered(web, number) for number in range(2 ** rank(web))]
            self.assertEqual(sorted(told), samples.slow_evens(web))
            self.assertEqual([number_of_even(web, even) for even in told], list(range(len(told))))

    def test_the_set_has_the_chords_of_the_numbers_bits(self):
        for web in samples.ALL:
            last = 2 ** rank(web) - 1
            for number in sorted({0, last, last // 3, last // 2, last * 3 // 7}):
                told = even_numbered(web, number)
                self.plain(told)
                have = [place for place, chord in enumerate(chords(web)) if chord in samples.slow_ties(told)]
                self.assertEqual(sum(2 ** place for place in have), number)
                self.assertEqual(samples.slow_odd(web, samples.slow_ties(told)), [])
                self.assertEqual(number_of_even(web, told), number)

    def test_the_first_and_the_last_number(self):
        for web in samples.ALL:
            last = 2 ** rank(web) - 1
            self.assertEqual(even_numbered(web, 0), 0)
            self.assertEqual(number_of_even(web, 0), 0)
            self.assertEqual(by_chords(web, even_numbered(web, last)), chords(web))
        self.assertEqual(even_numbered(samples.BUNCH, 2 ** 23 - 1), 2 ** 24 - 1)

    def test_numbers_of_no_even_set(self):
        for web in samples.ALL:
            beyond = 2 ** rank(web)
            for wrong in (-1, -2, -beyond, beyond, beyond + 1, beyond * 2, 10 ** 59, -10 ** 59):
                self.refused(NoSuch, even_numbered, web, wrong)


class Refusals(Refusing):
    def test_wrong_sets(self):
        for asked in (is_even, by_chords, number_of_even):
            for web in samples.ALL:
                for wrong in samples.wrong_sets(web):
                    self.refused(BadSet, asked, web, wrong)

    def test_sets_that_are_not_even(self):
        for asked in (by_chords, number_of_even):
            for web in samples.SMALL:
                for tie_set in range(2 ** len(web[1])):
                    odd = samples.slow_odd(web, samples.slow_ties(tie_set))
                    if odd:
                        self.assertEqual(self.refused(NotEven, asked, web, tie_set).point, odd[0])

    def test_the_least_odd_point(self):
        web = made_web(10, [(9, 8, 1), (7, 8, 1), (9, 4, 1)])
        for asked in (by_chords, number_of_even):
            self.assertEqual(self.refused(NotEven, asked, web, 0b001).point, 8)
            self.assertEqual(self.refused(NotEven, asked, web, 0b011).point, 7)
            self.assertEqual(self.refused(NotEven, asked, web, 0b111).point, 4)

    def test_bad_set_goes_ahead_of_not_even(self):
        # The ties of the web that the number has are no even set either.
        for asked in (by_chords, number_of_even):
            self.refused(BadSet, asked, samples.TRIANGLE, 0b1001)
            self.refused(BadSet, asked, samples.TRIANGLE, 2 ** 100 + 1)
            self.refused(BadSet, asked, samples.TRIANGLE, -3)

    def test_told_alike_after_a_refusal(self):
        before = even_numbered(samples.SQUARE, 5)
        self.refused(NoSuch, even_numbered, samples.SQUARE, 8)
        self.refused(NotEven, number_of_even, samples.SQUARE, 1)
        self.assertEqual(even_numbered(samples.SQUARE, 5), before)


if __name__ == "__main__":
    unittest.main()
