import unittest

from ringbase.bases import is_base, least_base, lengths, marks_for
from ringbase.errors import NoBase
from ringbase.evens import chord_ring, chords
from ringbase.oddrings import odd_judged
from ringbase.rings import is_ring
from ringbase.webs import rank
from tests import samples
from tests.refusing import Refusing
from tests.samples import APART, BIG, BUNCH, FULL, LONE, LOOSE, SQUARE, TOUCHING, TREE, TRIANGLE, TWINS

LITTLE = [web for web in samples.SMALL + samples.LEVEL if rank(web) <= 3]
FLAT = [LONE, LOOSE, TREE]


def chord_rings(web):
    return [chord_ring(web, chord) for chord in chords(web)]


def slow_is_base(web, numbers, rings):
    return len(numbers) == rank(web) and set(numbers) <= set(rings) and samples.slow_sums(numbers).count(0) == 1


def rows(choices, many):
    """All lists of so many of the choices."""
    found = [[]]
    for _ in range(many):
        found = [row + [one] for row in found for one in choices]
    return found


class IsBase(Refusing):
    def test_known_ones(self):
        self.assertIs(is_base(TRIANGLE, [0b111]), True)
        self.assertIs(is_base(TWINS, [0b011, 0b101]), True)
        self.assertIs(is_base(TWINS, [0b110, 0b011]), True)
        self.assertIs(is_base(TWINS, [0b011, 0b011]), False)
        self.assertIs(is_base(TWINS, [0b011]), False)
        self.assertIs(is_base(TWINS, [0b011, 0b101, 0b110]), False)
        # The three are rings, and their sum is empty.
        self.assertIs(is_base(SQUARE, [0b001111, 0b010101, 0b011010]), False)
        # Two even sets, one of which is no ring.
        self.assertIs(is_base(TOUCHING, [0b000111, 0b111000]), True)
        self.assertIs(is_base(TOUCHING, [0b000111, 0b111111]), False)

    def test_the_empty_base(self):
        for web in FLAT:
            self.assertIs(is_base(web, []), True)
            self.assertIs(is_base(web, [0]), False)
        for web in samples.ALL:
            self.assertIs(is_base(web, []), rank(web) == 0)

    def test_the_rings_of_chords(self):
        for web in samples.ALL:
            self.assertIs(self.own(is_base, web, chord_rings(web)), True)
            self.assertIs(is_base(web, chord_rings(web)[::-1]), True)

    def test_lists_of_any_sets(self):
        for web in LITTLE:
            rings = samples.slow_rings(web)
            choices = rings if rank(web) == 3 else range(2 ** len(web[1]))
            for numbers in rows(choices, rank(web)) if rank(web) < 3 or len(rings) < 7 else []:
                self.assertIs(is_base(web, numbers), slow_is_base(web, numbers, rings))

    def test_one_too_few_or_too_many(self):
        for web in samples.ALL:
            rings = chord_rings(web)
            self.assertIs(is_base(web, rings + rings[:1]), rank(web) == 0)
            self.assertIs(is_base(web, rings + [0]), False)
            if rings:
                self.assertIs(is_base(web, rings[1:]), False)
                self.assertIs(is_base(web, rings[1:] + [0]), False)

    def test_lists_of_any_numbers(self):
        for web in samples.ALL:
            rings = chord_rings(web)
            for wrong in samples.wrong_sets(web) + [0, 1]:
                self.assertIs(is_base(web, [wrong]), False)
                for place in range(len(rings)):
                    self.assertIs(is_base(web, rings[:place] + [wrong] + rings[place + 1:]), False)
                    beyond = rings[place] + 2 ** len(web[1])
                    self.assertIs(is_base(web, rings[:place] + [beyond] + rings[place + 1:]), False)


class MarksFor(Refusing):
    def marks_are_right(self, web, rings, marks):
        self.assertEqual((type(marks), len(marks)), (list, len(rings)))
        for i, ring in enumerate(rings):
            for j, own in enumerate(marks):
                self.assertTrue(0 <= own < 2 ** len(web[1]))
                self.assertEqual(samples.slow_common(ring, own) % 2, int(i == j))

    def test_the_rings_of_chords(self):
        for web in samples.ALL:
            for rings in (chord_rings(web), chord_rings(web)[::-1]):
                self.marks_are_right(web, rings, self.own(marks_for, web, rings))

    def test_every_base_of_small_webs(self):
        for web in LITTLE:
            rings = samples.slow_rings(web)
            for numbers in rows(rings, rank(web)) if len(rings) < 9 else []:
                if slow_is_base(web, numbers, rings):
                    self.marks_are_right(web, numbers, marks_for(web, numbers))
                else:
                    self.refused(NoBase, marks_for, web, numbers)

    def test_each_even_set_is_one_sum(self):
        for web in samples.SMALL:
            rings = [ring for ring, marks, worths in least_base(web)]
            self.assertEqual(sorted(samples.slow_sums(rings)), samples.slow_evens(web))

    def test_the_empty_base(self):
        for web in FLAT:
            self.assertEqual(marks_for(web, []), [])

    def test_lists_that_are_no_base(self):
        for web in samples.ALL:
            rings = chord_rings(web)
            for wrong in samples.wrong_sets(web) + [0, 1]:
                self.refused(NoBase, marks_for, web, rings + [wrong])
                self.refused(NoBase, marks_for, web, [wrong] + rings[1:])
            if rings:
                self.refused(NoBase, marks_for, web, [])
                self.refused(NoBase, marks_for, web, rings[1:])
                self.refused(NoBase, marks_for, web, rings + rings)
            if len(rings) > 1:
                self.refused(NoBase, marks_for, web, rings[:-1] + rings[:1])


class LeastBase(Refusing):
    def base_is_right(self, web, base):
        """The words of the document, with the program's own judge of a single ring."""
        self.assertEqual(({type(base)} | {type(part) for part in base}), {tuple})
        rings = [ring for ring, marks, worths in base]
        self.assertEqual(len(rings), rank(web))
        self.assertTrue(all(is_ring(web, ring) for ring in rings))
        self.assertEqual(rings, samples.slow_order(web, rings))
        for i, ring in enumerate(rings):
            for j, (_, marks, _) in enumerate(base):
                self.assertEqual(samples.slow_common(ring, marks) % 2, int(i == j))
        for ring, marks, worths in base:
            self.assertIs(odd_judged(web, marks, ("ring", ring, worths)), True)
            slow = tuple(samples.slow_worths(web, marks, point) for point in range(web[0]))
            self.assertEqual(worths, slow)

    def test_known_ones(self):
        self.assertEqual([ring for ring, marks, worths in least_base(TRIANGLE)], [0b111])
        self.assertEqual([ring for ring, marks, worths in least_base(TWINS)], [0b101, 0b011])
        self.assertEqual([ring for ring, marks, worths in least_base(SQUARE)], [0b001111, 0b011010, 0b100110])
        self.assertEqual(lengths(SQUARE), [10, 12, 12])
        self.assertEqual(lengths(APART), [9, 12, 13])
        self.assertEqual(lengths(TWINS), [8, BIG + 1])
        self.assertEqual(lengths(BUNCH), list(range(3, 26)))
        self.assertEqual(lengths(FULL), [3 * BIG] * 14 + [4 * BIG])

    def test_the_empty_base(self):
        for web in FLAT:
            self.assertEqual(least_base(web), ())
            self.assertEqual(lengths(web), [])

    def test_what_is_told(self):
        for web in samples.ALL + samples.LEVEL:
            base = self.own(least_base, web)
            self.base_is_right(web, base)
            self.assertEqual(self.own(lengths, web), [samples.slow_length(web, part[0]) for part in base])

    def test_lengths_by_going_through_all_rings(self):
        for web in samples.SMALL + samples.LEVEL:
            slow = [samples.slow_length(web, ring) for ring in samples.slow_first_base(web)]
            self.assertEqual(lengths(web), slow)

    def test_no_base_is_shorter_at_any_place(self):
        for web in LITTLE:
            rings = samples.slow_rings(web)
            for numbers in rows(rings, rank(web)) if len(rings) < 9 else []:
                if slow_is_base(web, numbers, rings):
                    others = sorted(samples.slow_length(web, ring) for ring in numbers)
                    self.assertTrue(all(own <= other for own, other in zip(lengths(web), others)))

    def test_rings_of_one_length_by_rising_number(self):
        # Four rings of two ties, each of length 2, put so that low numbers come late.
        web = (5, ((0, 1, 1), (1, 2, 1), (3, 4, 1), (4, 3, 1), (2, 1, 1), (1, 0, 1)))
        self.assertEqual([ring for ring, marks, worths in least_base(web)], [0b001100, 0b010010, 0b100001])


if __name__ == "__main__":
    unittest.main()
