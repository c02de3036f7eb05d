import unittest

from ringbase.errors import BadSet
from ringbase.oddrings import least_odd, odd_judged, worths_stand
from ringbase.rings import is_ring
from tests import samples
from tests.refusing import Refusing
from tests.samples import APART, BIG, BUNCH, LONE, LOOSE, SQUARE, TREE, TRIANGLE, TWINS

FEW = [web for web in samples.SMALL + samples.LEVEL if len(web[1]) <= 6]
RANKED = [web for web in samples.SMALL if samples.slow_rings(web)]


def slow_all_worths(web, marks):
    return tuple(samples.slow_worths(web, marks, point) for point in range(web[0]))


def least_points(web):
    return {piece[0] for piece in samples.slow_pieces(web, range(len(web[1])))}


class LeastOdd(Refusing):
    def answer_is_right(self, web, marks, answer, rings):
        odd = [ring for ring in rings if samples.slow_common(ring, marks) % 2]
        self.assertIs(type(answer), tuple)
        if odd:
            form, ring, worths = answer
            self.assertEqual(form, "ring")
            self.assertIn(ring, odd)
            self.assertEqual(samples.slow_length(web, ring), min(samples.slow_length(web, one) for one in odd))
            self.assertEqual(worths, slow_all_worths(web, marks))
        else:
            form, side = answer
            self.assertEqual((form, samples.slow_cut(web, side)), ("side", marks))
            self.assertEqual(side, sorted(set(side) - least_points(web)))

    def test_known_ones(self):
        worths = (((0, 9), (7, 2), (4, 5)), ((7, 2), (0, 9), (3, 6)), ((4, 5), (3, 6), (0, 9)))
        self.assertEqual(least_odd(TRIANGLE, 0b001), ("ring", 0b111, worths))
        self.assertEqual(least_odd(TRIANGLE, 0b011), ("side", [1]))
        self.assertEqual(least_odd(TWINS, 0b110), ("ring", 0b101, (((0, 8), (1, 7)), ((1, 7), (0, 8)))))
        self.assertEqual(least_odd(TWINS, 0b010)[1], 0b011)
        self.assertEqual(least_odd(LONE, 0), ("side", []))
        self.assertEqual(least_odd(LOOSE, 0), ("side", []))
        self.assertEqual(least_odd(TREE, 0b111), ("side", [1]))

    def test_the_least_of_several_pieces(self):
        # Of the one piece the ring is 9 long, of the other 12 and 13.
        self.assertEqual(least_odd(APART, 0b0001001)[1], 0b0010101)
        self.assertEqual(least_odd(APART, 0b0001000)[1], 0b0101010)
        self.assertEqual(least_odd(APART, 0b1000000)[1], 0b1001010)
        self.assertEqual(least_odd(APART, 0b1000010)[1], 0b0101010)

    def test_great_lengths(self):
        web = (3, ((0, 1, BIG), (1, 2, BIG - 1), (2, 0, BIG), (2, 0, BIG - 1)))
        self.assertEqual(least_odd(web, 0b1100)[1], 0b1011)
        self.assertEqual(least_odd(web, 0b0100)[1], 0b1100)
        self.assertEqual(least_odd(web, 0b0100)[2][1][1], (0, 3 * BIG - 1))

    def test_all_marks_of_small_webs(self):
        for web in FEW:
            rings = samples.slow_rings(web)
            for marks in range(2 ** len(web[1])):
                self.answer_is_right(web, marks, least_odd(web, marks), rings)

    def test_marks_of_small_webs(self):
        for web in samples.SMALL + samples.LEVEL:
            rings = samples.slow_rings(web)
            sides = [list(range(web[0]))[::2], list(range(web[0]))[1:3]]
            for marks in samples.some_sets(web) + [samples.slow_cut(web, side) for side in sides]:
                answer = self.own(least_odd, web, marks)
                self.answer_is_right(web, marks, answer, rings)

    def test_great_webs(self):
        for web in samples.ALL:
            for marks in samples.some_sets(web):
                answer = self.own(least_odd, web, marks)
                if answer[0] == "ring":
                    self.assertTrue(is_ring(web, answer[1]))
                    self.assertEqual(samples.slow_common(answer[1], marks) % 2, 1)
                    self.assertEqual(answer[2], slow_all_worths(web, marks))
                    least = min(answer[2][v][v][1] for v in range(web[0]) if answer[2][v][v][1] is not None)
                    self.assertEqual(samples.slow_length(web, answer[1]), least)
                else:
                    self.assertEqual(samples.slow_cut(web, answer[1]), marks)
        self.assertEqual(least_odd(BUNCH, 2 ** 23)[1], 2 ** 23 + 1)
        self.assertEqual(least_odd(BUNCH, 2 ** 24 - 1), ("side", [1]))

    def test_wrong_sets(self):
        for web in samples.ALL:
            for wrong in samples.wrong_sets(web):
                self.refused(BadSet, least_odd, web, wrong)


class WorthsStand(Refusing):
    def test_right_ones(self):
        for web in samples.ALL:
            for marks in samples.some_sets(web):
                self.assertIs(self.own(worths_stand, web, marks, slow_all_worths(web, marks)), True)

    def test_one_number_put_otherwise(self):
        for web in FEW:
            for marks in samples.some_sets(web):
                for worths in samples.other_worths(slow_all_worths(web, marks)):
                    self.assertIs(worths_stand(web, marks, worths), samples.slow_stand(web, marks, worths))

    def test_other_marks(self):
        for web in FEW:
            for marks in samples.some_sets(web):
                worths = slow_all_worths(web, marks)
                for other in range(2 ** len(web[1])):
                    self.assertIs(worths_stand(web, other, worths), samples.slow_stand(web, other, worths))

    def test_worths_that_are_lower_stand(self):
        # They need not be those of the least ways.
        self.assertIs(worths_stand(TRIANGLE, 0b111, (((0, 0),) * 3,) * 3), True)
        self.assertIs(worths_stand(TRIANGLE, 0b001, (((0, -2), (0, 0), (0, 0)),) + (((0, 0),) * 3,) * 2), True)
        self.assertIs(worths_stand(TRIANGLE, 0, (((0, None),) * 3,) * 3), True)
        self.assertIs(worths_stand(TRIANGLE, 0b100, (((0, None),) * 3,) * 3), False)

    def test_the_edge_of_a_length(self):
        web = (2, ((0, 1, BIG),))
        for far, stands in ((BIG, True), (BIG + 1, False), (-BIG, True), (-BIG - 1, False), (None, False)):
            for marks in (0, 1):
                pair = (None, far) if marks else (far, None)
                worths = (((0, None), pair), (pair, (0, None)))
                self.assertIs(worths_stand(web, marks, worths), stands)
                self.assertIs(worths_stand(web, 1 - marks, worths), False)

    def test_points_of_other_pieces(self):
        # Nothing leads there, so any number may stand there, but the same kind along each tie.
        web = (3, ((1, 2, 4),))
        ends = (((9, 9), (0, None), (4, None)), ((9, 9), (4, None), (0, None)))
        self.assertIs(worths_stand(web, 0, (((0, 7), (10 ** 59, None), (10 ** 59 + 4, None)),) + ends), True)
        self.assertIs(worths_stand(web, 0, (((0, 7), (10 ** 59, None), (10 ** 59 + 5, None)),) + ends), False)
        self.assertIs(worths_stand(web, 0, (((0, 7), (10 ** 59, None), (10 ** 59, 1)),) + ends), False)

    def test_wrong_sets(self):
        for web in samples.ALL:
            for wrong in samples.wrong_sets(web):
                self.refused(BadSet, worths_stand, web, wrong, slow_all_worths(web, 0))


class OddJudged(Refusing):
    def test_what_is_told_stands(self):
        for web in samples.ALL + samples.LEVEL:
            for marks in samples.some_sets(web):
                self.assertIs(self.own(odd_judged, web, marks, least_odd(web, marks)), True)

    def test_one_thing_put_otherwise(self):
        for web in FEW:
            rings = samples.slow_rings(web)
            for marks in samples.some_sets(web):
                answer = least_odd(web, marks)
                if answer[0] == "ring":
                    others = [("ring", number, answer[2]) for number in range(2 ** len(web[1]))]
                    others += [("ring", answer[1], worths) for worths in samples.other_worths(answer[2])]
                else:
                    others = [("side", side) for side in samples.all_sides(web) if web[0] < 8]
                for other in others:
                    right = samples.slow_odd_stands(web, marks, other, rings)
                    self.assertIs(odd_judged(web, marks, other), right)

    def test_other_marks(self):
        for web in FEW:
            rings = samples.slow_rings(web)
            for marks in samples.some_sets(web):
                answer = least_odd(web, marks)
                for other in range(2 ** len(web[1])):
                    right = samples.slow_odd_stands(web, other, answer, rings)
                    self.assertIs(odd_judged(web, other, answer), right)

    def test_a_longer_ring_does_not_stand(self):
        # The tie 2 is in rings of 8 and of 10**30 + 7; the longer one does not stand by the worths.
        worths = slow_all_worths(TWINS, 0b100)
        self.assertIs(odd_judged(TWINS, 0b100, ("ring", 0b101, worths)), True)
        self.assertIs(odd_judged(TWINS, 0b100, ("ring", 0b110, worths)), False)

    def test_none_for_a_round_way_lets_a_ring_stand(self):
        # The ring is far from the point 3, where no odd way comes back.
        answer = least_odd(APART, 0b0001000)
        self.assertEqual(answer[2][3][3], (0, None))
        self.assertIs(odd_judged(APART, 0b0001000, answer), True)

    def test_one_low_worth_at_the_end_of_the_points(self):
        for web in RANKED:
            marks = samples.slow_rings(web)[0] & -samples.slow_rings(web)[0]
            answer = least_odd(web, marks)
            for v in range(web[0]):
                worth = answer[2][v][v][1]
                length = samples.slow_length(web, answer[1])
                if worth == length:
                    other = ("ring", answer[1], samples.put_otherwise(answer[2], (v, v, 1), worth - 1))
                    self.assertIs(odd_judged(web, marks, other), False)

    def test_numbers_that_are_no_ring(self):
        for web in samples.ALL:
            for marks in samples.some_sets(web):
                for wrong in samples.wrong_sets(web) + [0]:
                    answer = ("ring", wrong, slow_all_worths(web, marks))
                    self.assertIs(odd_judged(web, marks, answer), False)
        answer = least_odd(TRIANGLE, 0b001)
        self.assertIs(odd_judged(TRIANGLE, 0b001, ("ring", 0b1111, answer[2])), False)

    def test_an_even_set_that_is_no_ring_does_not_stand(self):
        web = (5, ((0, 1, 1), (1, 2, 1), (2, 0, 1), (2, 3, 1), (3, 4, 1), (4, 2, 1)))
        worths = (((0, None),) * 5,) * 5
        self.assertIs(odd_judged(web, 0, ("ring", 0b111111, worths)), False)
        lows = slow_all_worths(web, 0b000001)
        self.assertIs(odd_judged(web, 0b000001, ("ring", 0b000111, lows)), True)
        self.assertIs(odd_judged(web, 0b000001, ("ring", 0b111111, lows)), False)

    def test_lists_that_are_no_side(self):
        self.assertIs(odd_judged(SQUARE, 0b111100, ("side", [2, 3])), True)
        self.assertIs(odd_judged(SQUARE, 0b111100, ("side", [0, 1])), True)
        for wrong in ([3, 2], [2, 2, 3], [2, 3, 4], [-1, 2, 3], [2, 3, 10 ** 59], [2], [], [0, 1, 2, 3], [1, 3]):
            self.assertIs(self.own(odd_judged, SQUARE, 0b111100, ("side", wrong)), False)

    def test_a_side_beside_marks_that_are_no_cut(self):
        for side in samples.all_sides(TRIANGLE):
            self.assertIs(odd_judged(TRIANGLE, 0b111, ("side", side)), False)

    def test_wrong_sets(self):
        for web in samples.ALL:
            for wrong in samples.wrong_sets(web):
                self.refused(BadSet, odd_judged, web, wrong, ("side", []))
                self.refused(BadSet, odd_judged, web, wrong, ("side", [-1]))
                self.refused(BadSet, odd_judged, web, wrong, ("ring", wrong, slow_all_worths(web, 0)))


if __name__ == "__main__":
    unittest.main()
