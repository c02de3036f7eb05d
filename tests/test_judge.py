import unittest

from ringbase.bases import least_base, marks_for
from ringbase.errors import BadSet, NotEven
from ringbase.evens import even_numbered
from ringbase.judge import base_judged, parts_by
from ringbase.oddrings import least_odd
from ringbase.webs import rank
from tests import samples
from tests.refusing import Refusing
from tests.samples import APART, LONE, LOOSE, SQUARE, TREE, TRIANGLE, TWINS

RANKED = [web for web in samples.SMALL + samples.LEVEL if rank(web) > 0]
FEW = [web for web in RANKED if len(web[1]) <= 7 and web[0] <= 5]


def with_worths(web, rings, marks):
    """Triples of rings and marks with the worths that belong to the marks."""
    worths = [tuple(samples.slow_worths(web, own, point) for point in range(web[0])) for own in marks]
    return tuple(zip(rings, marks, worths))


class BaseJudged(Refusing):
    def judged_as_the_words_say(self, web, base, rings):
        self.assertIs(base_judged(web, base), samples.slow_told(web, base, rings))

    def test_what_is_told_is_taken(self):
        for web in samples.ALL + samples.LEVEL:
            self.assertIs(self.own(base_judged, web, least_base(web)), True)

    def test_the_empty_base(self):
        for web in (LONE, LOOSE, TREE):
            self.assertIs(base_judged(web, ()), True)
        for web in RANKED:
            self.assertIs(base_judged(web, ()), False)

    def test_other_right_ones_are_taken(self):
        # In a web of ties of one length there are several least bases, and any marks that fit will do.
        taken = 0
        for web in samples.LEVEL:
            rings = samples.slow_rings(web)
            if rank(web) == 2:
                for one in rings:
                    for other in rings:
                        if one != other:
                            base = with_worths(web, [one, other], marks_for(web, [one, other]))
                            self.judged_as_the_words_say(web, base, rings)
                            taken += base_judged(web, base)
        self.assertGreater(taken, 4)

    def test_other_marks_that_fit_are_taken(self):
        for web in FEW:
            rings = samples.slow_rings(web)
            base = least_base(web)
            for side in samples.all_sides(web):
                # A cut added to marks leaves them marks for the base, since rings bear cuts evenly.
                marks = [own ^ samples.slow_cut(web, side) for _, own, _ in base]
                other = with_worths(web, [ring for ring, _, _ in base], marks)
                self.judged_as_the_words_say(web, other, rings)
                self.assertIs(base_judged(web, other), True)

    def test_one_ring_put_otherwise(self):
        for web in FEW:
            rings = samples.slow_rings(web)
            base = least_base(web)
            for place in range(len(base)):
                for number in list(range(2 ** len(web[1]))) + samples.wrong_sets(web):
                    self.judged_as_the_words_say(web, samples.put_otherwise(base, (place, 0), number), rings)

    def test_one_mark_put_otherwise(self):
        for web in FEW:
            rings = samples.slow_rings(web)
            base = least_base(web)
            for place in range(len(base)):
                for number in list(range(2 ** len(web[1]))) + samples.wrong_sets(web):
                    self.judged_as_the_words_say(web, samples.put_otherwise(base, (place, 1), number), rings)
                    marks = [own for _, own, _ in base]
                    marks[place] = number
                    if number in range(2 ** len(web[1])):
                        other = with_worths(web, [ring for ring, _, _ in base], marks)
                        self.judged_as_the_words_say(web, other, rings)

    def test_marks_with_a_tie_that_is_none(self):
        for web in RANKED:
            base = least_base(web)
            for place in range(len(base)):
                for beyond in (2 ** len(web[1]), 2 ** 100):
                    other = samples.put_otherwise(base, (place, 1), base[place][1] + beyond)
                    self.assertIs(base_judged(web, other), False)
                lower = samples.put_otherwise(base, (place, 1), base[place][1] - 2 ** len(web[1]))
                self.assertIs(base_judged(web, lower), False)

    def test_one_worth_put_otherwise(self):
        for web in FEW:
            rings = samples.slow_rings(web)
            base = least_base(web)
            for place in range(len(base)):
                for worths in list(samples.other_worths(base[place][2]))[::3]:
                    self.judged_as_the_words_say(web, samples.put_otherwise(base, (place, 2), worths), rings)

    def test_another_order_or_count(self):
        for web in RANKED:
            base = least_base(web)
            self.assertIs(base_judged(web, base + base[:1]), False)
            self.assertIs(base_judged(web, base[1:]), False)
            self.assertIs(base_judged(web, base[:-1]), False)
            if len(base) > 1:
                self.assertIs(base_judged(web, base[::-1]), False)
                self.assertIs(base_judged(web, base[:1] + base[:-1]), False)
                for place in range(len(base) - 1):
                    swapped = base[:place] + (base[place + 1], base[place]) + base[place + 2:]
                    self.assertIs(base_judged(web, swapped), False)

    def test_a_base_that_is_not_least(self):
        rings = [0b011, 0b110]
        base = with_worths(TWINS, rings, marks_for(TWINS, rings))
        self.assertIs(base_judged(TWINS, base), False)
        low = least_odd(TWINS, base[1][1])
        self.assertNotEqual(low[1], rings[1])

    def test_a_great_base_that_is_not_least(self):
        for web in (samples.BUNCH, samples.FULL):
            base = least_base(web)
            rings = [ring for ring, _, _ in base]
            longer = samples.slow_order(web, rings[:-1] + [rings[-1] ^ rings[-2]])
            if web == samples.BUNCH:
                other = with_worths(web, longer, marks_for(web, longer))
                self.assertIs(base_judged(web, other), False)
            self.assertIs(base_judged(web, base), True)


class PartsBy(Refusing):
    def test_known_ones(self):
        base = least_base(SQUARE)
        self.assertEqual([part[0] for part in base], [0b001111, 0b011010, 0b100110])
        self.assertEqual(parts_by(SQUARE, base, 0), [])
        self.assertEqual(parts_by(SQUARE, base, 0b100110), [2])
        self.assertEqual(parts_by(SQUARE, base, 0b010101), [0, 1])
        self.assertEqual(parts_by(SQUARE, base, 0b110011), [0, 1, 2])

    def test_the_parts_add_up_to_the_set(self):
        for web in samples.SMALL:
            base = least_base(web)
            for even in samples.slow_evens(web):
                told = self.own(parts_by, web, base, even)
                self.assertEqual(told, sorted(set(told)))
                self.assertEqual(samples.added(base[place][0] for place in told), even)

    def test_great_webs(self):
        for web in samples.ALL:
            base = least_base(web)
            last = 2 ** rank(web) - 1
            for number in {0, last, last // 3, last * 5 // 7}:
                even = even_numbered(web, number)
                told = parts_by(web, base, even)
                self.assertEqual(samples.added(base[place][0] for place in told), even)

    def test_no_part_of_a_ring_is_longer(self):
        for web in samples.SMALL + samples.LEVEL:
            base = least_base(web)
            for ring in samples.slow_rings(web):
                for place in parts_by(web, base, ring):
                    self.assertLessEqual(samples.slow_length(web, base[place][0]), samples.slow_length(web, ring))

    def test_sets_that_are_not_even(self):
        for web in samples.SMALL:
            base = least_base(web)
            for tie_set in range(2 ** len(web[1])):
                odd = samples.slow_odd(web, samples.slow_ties(tie_set))
                if odd:
                    self.assertEqual(self.refused(NotEven, parts_by, web, base, tie_set).point, odd[0])

    def test_bad_set_goes_ahead_of_not_even(self):
        for web in samples.ALL:
            base = least_base(web)
            for wrong in samples.wrong_sets(web):
                self.refused(BadSet, parts_by, web, base, wrong)
        self.refused(BadSet, parts_by, TRIANGLE, least_base(TRIANGLE), 0b1001)
        self.refused(BadSet, parts_by, APART, least_base(APART), -1)


if __name__ == "__main__":
    unittest.main()
