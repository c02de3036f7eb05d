import copy
import unittest

from ringbase.errors import BadSet, BadWeb
from ringbase.webs import all_ties, length_of, made_web, odd_points, pieces, rank, set_of, ties_in
from tests import samples
from tests.refusing import Refusing
from tests.samples import BIG, some_sets


class MadeWeb(Refusing):
    def test_a_web_is_told_as_tuples(self):
        for web in samples.ALL:
            for outer in (list, tuple):
                for inner in (list, tuple):
                    told = made_web(web[0], outer(inner(tie) for tie in web[1]))
                    self.assertEqual(told, web)
                    self.assertEqual([type(told), type(told[1])], [tuple, tuple])
                    self.assertEqual({type(tie) for tie in told[1]} - {tuple}, set())
                    self.plain(told)

    def test_the_edges(self):
        self.assertEqual(made_web(1, []), (1, ()))
        self.assertEqual(made_web(10, ()), (10, ()))
        self.assertEqual(made_web(10, [(9, 0, 1), [0, 9, BIG]]), (10, ((9, 0, 1), (0, 9, BIG))))
        self.assertEqual(len(made_web(2, [(0, 1, 1)] * 24)[1]), 24)

    def test_points_out_of_bounds(self):
        for points in (0, 11, -1, 12, -10, 10 ** 59):
            self.refused(BadWeb, made_web, points, [])
            self.refused(BadWeb, made_web, points, [(0, 1, 1)])

    def test_too_many_ties(self):
        for many in (25, 26, 60):
            self.refused(BadWeb, made_web, 2, [(0, 1, 1)] * many)
            self.refused(BadWeb, made_web, 2, ((0, 1, 1),) * many)

    def test_wrong_ends(self):
        for one, other in ((-1, 0), (0, -1), (-1, -2), (3, 0), (0, 3), (0, 4), (10 ** 59, 1), (1, -10 ** 59)):
            self.refused(BadWeb, made_web, 3, [(one, other, 1)])
            self.refused(BadWeb, made_web, 3, [(0, 1, 1), [one, other, 1], (0, 2, 1)])
        for end in range(3):
            self.refused(BadWeb, made_web, 3, [(end, end, 1)])
        self.refused(BadWeb, made_web, 1, [(0, 0, 1)])
        self.refused(BadWeb, made_web, 1, [(0, 1, 1)])

    def test_wrong_lengths(self):
        for length in (0, -1, -BIG, BIG + 1, 10 ** 59):
            self.refused(BadWeb, made_web, 2, [(0, 1, length)])
            self.refused(BadWeb, made_web, 2, [(0, 1, 1), (1, 0, length)])

    def test_wrong_counts_of_parts(self):
        for tie in ((), (0,), (0, 1), (0, 1, 1, 1), (0, 1, 1, 0, 1)):
            self.refused(BadWeb, made_web, 2, [tie])
            self.refused(BadWeb, made_web, 2, ((0, 1, 1), list(tie)))

    def test_what_is_handed_in_is_neither_changed_nor_kept(self):
        ties = [[0, 1, 5], [1, 2, 6]]
        web = made_web(3, ties)
        self.assertEqual(ties, [[0, 1, 5], [1, 2, 6]])
        ties[0][2] = 9
        ties.append([0, 2, 7])
        self.assertEqual(web, (3, ((0, 1, 5), (1, 2, 6))))

    def test_a_refused_list_stays_as_it_is(self):
        ties = [[0, 1, 5], [1, 1, 6]]
        self.refused(BadWeb, made_web, 3, ties)
        self.assertEqual(ties, [[0, 1, 5], [1, 1, 6]])


class TiesIn(Refusing):
    def test_all_small_numbers(self):
        for number in range(300):
            self.assertEqual(ties_in(number), samples.slow_ties(number))

    def test_known_ones(self):
        self.assertEqual(ties_in(0), [])
        self.assertEqual(ties_in(1), [0])
        self.assertEqual(ties_in(0b101001), [0, 3, 5])
        self.assertEqual(ties_in(2 ** 24 - 1), list(range(24)))

    def test_numbers_of_up_to_sixty_figures(self):
        self.assertEqual(ties_in(2 ** 198), [198])
        self.assertEqual(ties_in(2 ** 199 - 1), list(range(199)))
        for number in (10 ** 59, 10 ** 60 - 1, 123456789 ** 7, 2 ** 190 + 2 ** 64 + 1):
            self.assertEqual(ties_in(number), samples.slow_ties(number))
            self.plain(ties_in(number))

    def test_what_is_told_is_the_askers_own(self):
        told = ties_in(13)
        told.append(99)
        self.assertEqual(ties_in(13), [0, 2, 3])


class SetOf(Refusing):
    def test_it_turns_ties_in_around(self):
        for web in samples.ALL:
            for tie_set in some_sets(web):
                self.assertEqual(set_of(web, ties_in(tie_set)), tie_set)
                self.assertEqual(set_of(web, ties_in(tie_set)[::-1]), tie_set)

    def test_one_told_twice_counts_once(self):
        self.assertEqual(set_of(samples.SQUARE, [3, 1, 3]), 0b1010)
        self.assertEqual(set_of(samples.SQUARE, [5, 5, 5, 5]), 0b100000)
        self.assertEqual(set_of(samples.SQUARE, []), 0)
        self.assertEqual(set_of(samples.BUNCH, list(range(24)) * 2), 2 ** 24 - 1)

    def test_numbers_that_are_no_tie(self):
        for web in samples.ALL:
            many = len(web[1])
            for wrong in (-1, many, many + 1, -many - 1, 10 ** 59, -10 ** 59):
                self.refused(BadSet, set_of, web, [wrong])
                self.refused(BadSet, set_of, web, list(range(many)) + [wrong])
                self.refused(BadSet, set_of, web, [wrong] + list(range(many)))

    def test_the_list_stays_as_it_is(self):
        ties = [4, 0, 4, 2]
        self.assertEqual(set_of(samples.SQUARE, ties), 0b10101)
        self.assertEqual(ties, [4, 0, 4, 2])


class OverSets(Refusing):
    def test_all_ties(self):
        self.assertEqual(all_ties(samples.LONE), 0)
        self.assertEqual(all_ties(samples.TRIANGLE), 7)
        self.assertEqual(all_ties(samples.BUNCH), 2 ** 24 - 1)
        for web in samples.ALL:
            self.assertEqual(ties_in(all_ties(web)), list(range(len(web[1]))))

    def test_length_of(self):
        self.assertEqual(length_of(samples.TRIANGLE, 0), 0)
        self.assertEqual(length_of(samples.TRIANGLE, 0b101), 6)
        self.assertEqual(length_of(samples.TRIANGLE, 0b111), 9)
        self.assertEqual(length_of(samples.TWINS, 0b011), BIG + 1)
        self.assertEqual(length_of(samples.FULL, 2 ** 24 - 1), 24 * BIG)
        for web in samples.ALL:
            for tie_set in some_sets(web):
                lengths = [web[1][k][2] for k in samples.slow_ties(tie_set)]
                self.assertEqual(length_of(web, tie_set), sum(lengths))

    def test_odd_points(self):
        self.assertEqual(odd_points(samples.TRIANGLE, 0), [])
        self.assertEqual(odd_points(samples.TRIANGLE, 0b011), [0, 2])
        self.assertEqual(odd_points(samples.TRIANGLE, 0b111), [])
        self.assertEqual(odd_points(samples.TWINS, 0b011), [])
        self.assertEqual(odd_points(samples.TWINS, 0b111), [0, 1])
        self.assertEqual(odd_points(samples.TREE, 0b111), [0, 1, 2, 3])
        for web in samples.ALL:
            for tie_set in some_sets(web):
                self.assertEqual(odd_points(web, tie_set), samples.slow_odd(web, samples.slow_ties(tie_set)))

    def test_pieces(self):
        self.assertEqual(pieces(samples.LONE, 0), [[0]])
        self.assertEqual(pieces(samples.LOOSE, 0), [[point] for point in range(10)])
        self.assertEqual(pieces(samples.TREE, 0b101), [[0], [1, 2, 3]])
        self.assertEqual(pieces(samples.APART, 2 ** 7 - 1), [[0, 1, 2], [3], [4, 5, 6]])
        self.assertEqual(pieces(samples.APART, 0b0000101), [[0], [1], [2], [3], [4, 5, 6]])
        self.assertEqual(pieces(samples.TWINS, 0b111), [[0, 1]])

    def test_pieces_against_slow_ones(self):
        for web in samples.ALL:
            for tie_set in some_sets(web):
                told = pieces(web, tie_set)
                slow = samples.slow_pieces(web, samples.slow_ties(tie_set))
                self.assertEqual(told, [list(piece) for piece in slow])

    def test_pieces_joined_in_awkward_orders(self):
        web = (10, ((9, 8, 1), (7, 6, 1), (8, 7, 1), (2, 9, 1), (5, 4, 1), (4, 3, 1), (1, 5, 1)))
        self.assertEqual(pieces(web, 2 ** 7 - 1), [[0], [1, 3, 4, 5], [2, 6, 7, 8, 9]])

    def test_rank(self):
        wanted = {samples.LONE: 0, samples.LOOSE: 0, samples.TREE: 0, samples.TRIANGLE: 1, samples.TWINS: 2,
                  samples.APART: 3, samples.SQUARE: 3, samples.BUNCH: 23}
        for web, number in wanted.items():
            self.assertEqual(rank(web), number)
        for web in samples.ALL:
            slow = samples.slow_pieces(web, range(len(web[1])))
            self.assertEqual(rank(web), len(web[1]) - web[0] + len(slow))

    def test_wrong_sets(self):
        for asked in (length_of, odd_points, pieces):
            for web in samples.ALL:
                for wrong in samples.wrong_sets(web):
                    self.refused(BadSet, asked, web, wrong)

    def test_what_is_told_is_the_askers_own(self):
        for asked in (odd_points, pieces):
            first = asked(samples.APART, 0b0101010)
            kept = copy.deepcopy(first)
            self.plain(first)
            for part in first:
                if isinstance(part, list):
                    part.clear()
            first.append(77)
            self.assertEqual(asked(samples.APART, 0b0101010), kept)

    def test_told_alike_again(self):
        for web in samples.ALL:
            for tie_set in some_sets(web):
                for asked in (length_of, odd_points, pieces):
                    told = asked(web, tie_set)
                    self.plain(told)
                    self.assertEqual(asked(web, tie_set), told)


if __name__ == "__main__":
    unittest.main()
