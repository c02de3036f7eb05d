import itertools
import unittest

from ringbase.bases import is_base, least_base
from ringbase.errors import BadRow, BadSet, NoSuch, NotRing
from ringbase.evens import chord_ring, chords
from ringbase.heights import heights_judged, heights_of, round_of
from ringbase.rings import is_ring, walked
from ringbase.webs import rank
from tests import samples
from tests.refusing import Refusing
from tests.samples import APART, BUNCH, FULL, LONE, LOOSE, SQUARE, TREE, TRIANGLE, TWINS

GREAT = 10 ** 60 - 1
RESTS = [0, 2, 3, 4, 5, 6, 8, 12, 10 ** 59, GREAT]


def rows_for(web):
    """Rows of numbers above and below 0: such as have heights, and others."""
    many = len(web[1])
    rows = [[0] * many, [1] * many, [-1] * many, [(k * 7 + 3) % 11 - 5 for k in range(many)],
            [6 * ((k * 5) % 7 - 3) for k in range(many)], [(-1) ** k * (GREAT - k) for k in range(many)]]
    for spread in (1, 3, 10 ** 58):
        heights = [spread * ((p * 5 + 2) % 9 - 4) for p in range(web[0])]
        rows.append([heights[tie[1]] - heights[tie[0]] for tie in web[1]])
    rows.append([number + (k == many // 2) for k, number in enumerate(rows[-2])])
    rows.append([number + 12 * (k % 3) for k, number in enumerate(rows[-3])])
    return rows


def slow_fits(web, row, rest, heights):
    for k, (one, other, _) in enumerate(web[1]):
        off = heights[other] - heights[one] - row[k]
        if off != 0 if rest == 0 else off % rest != 0:
            return False
    return True


def slow_round(web, row, ring):
    return sum(way * row[tie] for tie, way in walked(web, ring))


def turns(number, rest):
    """Whether a round is none of 0 or of the multiples of the rest."""
    return number != 0 if rest == 0 else number % rest != 0


def least_points(web):
    return [piece[0] for piece in samples.slow_pieces(web, range(len(web[1])))]


class RoundOf(Refusing):
    def test_known_ones(self):
        self.assertEqual(round_of(TRIANGLE, [1, 10, 100], 0b111), 111)
        self.assertEqual(round_of(TRIANGLE, [1, -10, 9], 0b111), 0)
        # It is walked 1 by 1, 5 by -1, 2 by 1.
        self.assertEqual(round_of(SQUARE, [1, 10, 100, 1000, 10000, 100000], 0b100110), 10 + 100 - 100000)
        self.assertEqual(round_of(TWINS, [GREAT, -GREAT, GREAT], 0b011), 0)
        self.assertEqual(round_of(TWINS, [GREAT, -GREAT, -GREAT], 0b101), 2 * GREAT)

    def test_against_the_walk(self):
        for web in samples.SMALL:
            for row in rows_for(web):
                for ring in samples.slow_rings(web):
                    self.assertEqual(self.own(round_of, web, row, ring), slow_round(web, row, ring))

    def test_refusals_in_their_order(self):
        for web in samples.ALL:
            row = [3] * len(web[1])
            for wrong in samples.wrong_sets(web):
                self.refused(BadSet, round_of, web, row, wrong)
                self.refused(BadRow, round_of, web, row + [0], wrong)
                if row:
                    self.refused(BadRow, round_of, web, row[1:], wrong)
            self.refused(NotRing, round_of, web, row, 0)
            self.refused(BadRow, round_of, web, row + [0], 0)
        self.refused(NotRing, round_of, TRIANGLE, [1, 2, 3], 0b011)
        self.refused(BadRow, round_of, TRIANGLE, [], 0b111)
        self.refused(BadRow, round_of, TRIANGLE, [1, 2], 0b111)
        self.refused(BadRow, round_of, TRIANGLE, [1, 2, 3, 4], 0b111)


class HeightsOf(Refusing):
    def answer_is_right(self, web, row, rest, answer):
        self.assertIs(type(answer), tuple)
        form, told = answer
        if form == "heights":
            self.assertEqual((type(told), len(told)), (list, web[0]))
            self.assertTrue(slow_fits(web, row, rest, told))
            self.assertEqual({told[point] for point in least_points(web)}, {0})
            if rest:
                self.assertTrue(all(0 <= height < rest for height in told))
        else:
            self.assertEqual(form, "ring")
            self.assertTrue(is_ring(web, told))
            self.assertTrue(turns(slow_round(web, row, told), rest))

    def test_known_ones(self):
        self.assertEqual(heights_of(TRIANGLE, [1, 2, -3]), ("heights", [0, 1, 3]))
        self.assertEqual(heights_of(TRIANGLE, [-1, -2, 3]), ("heights", [0, -1, -3]))
        self.assertEqual(heights_of(TRIANGLE, [1, 2, -2]), ("ring", 0b111))
        self.assertEqual(heights_of(TRIANGLE, [-1, -2, 3], 5), ("heights", [0, 4, 2]))
        self.assertEqual(heights_of(TRIANGLE, [1, 1, 1], 3), ("heights", [0, 1, 2]))
        self.assertEqual(heights_of(TRIANGLE, [1, 1, 1], 2), ("ring", 0b111))
        self.assertEqual(heights_of(LONE, []), ("heights", [0]))
        self.assertEqual(heights_of(LOOSE, [], 7), ("heights", [0] * 10))
        self.assertEqual(heights_of(TREE, [1, 10, 100]), ("heights", [0, -10, -110, -11]))
        self.assertEqual(heights_of(APART, [1, 10, 100, 1000, -101, -1010, 1010]), ("heights", [0, 1010, 10, 0, 0, -100, 1]))

    def test_the_rest_by_name_and_left_out(self):
        self.assertEqual(heights_of(TRIANGLE, [1, 1, 1], rest=3), ("heights", [0, 1, 2]))
        self.assertEqual(heights_of(TRIANGLE, [1, 1, 1], rest=0), heights_of(TRIANGLE, [1, 1, 1]))
        self.assertEqual(heights_of(TRIANGLE, [1, 1, -2]), heights_of(TRIANGLE, [1, 1, -2], 0))

    def test_rows_and_rests(self):
        forms = {}
        for web in samples.ALL:
            for row in rows_for(web):
                for rest in RESTS:
                    answer = self.own(heights_of, web, row, rest)
                    self.answer_is_right(web, row, rest, answer)
                    forms[answer[0], rest] = True
        self.assertEqual(len(forms), 2 * len(RESTS))

    def test_heights_by_trying(self):
        webs = [web for web in samples.SMALL if web[0] <= 4 and len(web[1]) <= 4]
        for web in webs:
            for row in itertools.product((-1, 0, 2), repeat=len(web[1])):
                for rest in (2, 3, 4):
                    tried = itertools.product(range(rest), repeat=web[0])
                    there = any(slow_fits(web, row, rest, heights) for heights in tried)
                    self.assertEqual(heights_of(web, list(row), rest)[0], "heights" if there else "ring")

    def test_whole_heights_by_trying(self):
        for row in itertools.product((-2, -1, 0, 1), repeat=3):
            tried = itertools.product(range(-4, 5), repeat=2)
            there = [list((0,) + pair) for pair in tried if slow_fits(TRIANGLE, row, 0, (0,) + pair)]
            answer = heights_of(TRIANGLE, list(row))
            self.assertEqual(answer, ("heights", there[0]) if there else ("ring", 0b111))

    def test_never_both(self):
        for web in samples.SMALL:
            rings = samples.slow_rings(web)
            for row in rows_for(web):
                for rest in RESTS:
                    turned = any(turns(slow_round(web, row, ring), rest) for ring in rings)
                    self.assertEqual(heights_of(web, row, rest)[0], "ring" if turned else "heights")

    def test_by_the_rings_of_a_base(self):
        for web in samples.ALL:
            closed = [chord_ring(web, chord) for chord in chords(web)]
            least = [ring for ring, marks, worths in least_base(web)]
            for row in rows_for(web):
                for rest in RESTS:
                    fits = heights_of(web, row, rest)[0] == "heights"
                    self.assertEqual(fits, not any(turns(slow_round(web, row, ring), rest) for ring in closed))
                    if rest in (0, 2, 4, 8):
                        self.assertEqual(fits, not any(turns(slow_round(web, row, ring), rest) for ring in least))

    def test_by_any_base(self):
        for web in (SQUARE, TWINS):
            rings = samples.slow_rings(web)
            bases = [base for base in itertools.combinations(rings, rank(web)) if is_base(web, list(base))]
            for base in bases:
                for row in rows_for(web):
                    for rest in (0, 2, 4, 8, 64):
                        fits = heights_of(web, row, rest)[0] == "heights"
                        self.assertEqual(fits, not any(turns(slow_round(web, row, ring), rest) for ring in base))

    def test_a_rest_that_is_no_power_of_two_needs_the_chords(self):
        # By 3 the rounds on the rings of a base may all be multiples, and still there are no heights.
        web, base = samples.CROSSED, samples.CROSSED_BASE
        missed = 0
        for numbers in itertools.product((0, 1, 2), repeat=4):
            by_chord = dict(zip(chords(web), numbers))
            row = [by_chord.get(tie, 0) for tie in range(len(web[1]))]
            fits = heights_of(web, row, 3)[0] == "heights"
            closed = [chord_ring(web, chord) for chord in chords(web)]
            self.assertEqual(fits, not any(turns(slow_round(web, row, ring), 3) for ring in closed))
            missed += not fits and not any(turns(slow_round(web, row, ring), 3) for ring in base)
        self.assertGreater(missed, 0)

    def test_refusals_in_their_order(self):
        for web in samples.ALL:
            row = [3] * len(web[1])
            for rest in (1, -1, -2, -GREAT):
                self.refused(NoSuch, heights_of, web, row, rest)
            for rest in (1, -1, 0, 2):
                self.refused(BadRow, heights_of, web, row + [0], rest)
                if row:
                    self.refused(BadRow, heights_of, web, row[1:], rest)


class HeightsJudged(Refusing):
    def test_what_is_told_is_right(self):
        for web in samples.ALL:
            for row in rows_for(web):
                for rest in RESTS:
                    answer = heights_of(web, row, rest)
                    self.assertIs(self.own(heights_judged, web, row, rest, answer), True)

    def test_any_heights_that_fit(self):
        self.assertIs(heights_judged(TRIANGLE, [1, 2, -3], 0, ("heights", [7, 8, 10])), True)
        self.assertIs(heights_judged(TRIANGLE, [1, 2, -3], 0, ("heights", [-7, -6, -4])), True)
        self.assertIs(heights_judged(TRIANGLE, [1, 2, -3], 5, ("heights", [12, -7, 0])), True)
        self.assertIs(heights_judged(TRIANGLE, [1, 2, -3], 5, ("heights", [GREAT, GREAT + 1, GREAT - 2])), True)
        self.assertIs(heights_judged(TRIANGLE, [1, 2, -3], 0, ("heights", [12, -7, 0])), False)
        self.assertIs(heights_judged(LOOSE, [], 0, ("heights", list(range(10)))), True)

    def test_one_height_put_otherwise(self):
        for web in samples.SMALL:
            for row in rows_for(web):
                for rest in (0, 2, 3, 12):
                    form, told = heights_of(web, row, rest)
                    if form == "heights":
                        for point in range(web[0]):
                            for new in (told[point] + 1, told[point] - 1, told[point] + 12, -told[point], GREAT):
                                heights = told[:point] + [new] + told[point + 1:]
                                right = slow_fits(web, row, rest, heights)
                                self.assertIs(heights_judged(web, row, rest, ("heights", heights)), right)

    def test_another_count_of_heights(self):
        for web in samples.ALL:
            row = [0] * len(web[1])
            for many in (0, 1, web[0] - 1, web[0] + 1, web[0] + 2, 40):
                if many != web[0]:
                    self.assertIs(self.own(heights_judged, web, row, 0, ("heights", [0] * many)), False)
                    self.assertIs(heights_judged(web, row, 3, ("heights", [0] * many)), False)

    def test_any_number_as_a_ring(self):
        for web in [web for web in samples.SMALL if len(web[1]) <= 6]:
            rings = samples.slow_rings(web)
            for row in rows_for(web):
                for rest in (0, 2, 3, 12):
                    for number in range(2 ** len(web[1])):
                        right = number in rings and turns(slow_round(web, row, number), rest)
                        self.assertIs(heights_judged(web, row, rest, ("ring", number)), right)

    def test_numbers_that_are_no_set(self):
        for web in samples.ALL:
            for row in rows_for(web):
                for wrong in samples.wrong_sets(web):
                    self.assertIs(heights_judged(web, row, 0, ("ring", wrong)), False)
        self.assertIs(heights_judged(TRIANGLE, [1, 1, 1], 0, ("ring", 0b1111)), False)
        self.assertIs(heights_judged(TRIANGLE, [1, 1, 1], 0, ("ring", 0b0111)), True)
        self.assertIs(heights_judged(TRIANGLE, [1, 1, 1], 3, ("ring", 0b0111)), False)

    def test_refusals_in_their_order(self):
        for web in (TRIANGLE, LONE, BUNCH, FULL):
            row = [3] * len(web[1])
            for answer in (("heights", []), ("heights", [0] * web[0]), ("ring", 0), ("ring", -1)):
                for rest in (1, -1, -2, -GREAT):
                    self.refused(NoSuch, heights_judged, web, row, rest, answer)
                    self.refused(BadRow, heights_judged, web, row + [0], rest, answer)
                for rest in (0, 2, 3):
                    self.refused(BadRow, heights_judged, web, row + [0], rest, answer)
                    self.assertIn(heights_judged(web, row, rest, answer), (True, False))


if __name__ == "__main__":
    unittest.main()
