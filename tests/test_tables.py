import itertools
import unittest

from ringbase.bases import is_base, least_base
from ringbase.errors import BadSet, NoBase, NotRing
from ringbase.evens import chord_ring, chords
from ringbase.rings import walked
from ringbase.tables import determinant, ring_table, ring_worth
from ringbase.webs import rank
from tests import samples
from tests.refusing import Refusing
from tests.samples import LONE, LOOSE, SQUARE, TOUCHING, TREE, TRIANGLE, TWINS

GREAT = 10 ** 60 - 1


def slow_determinant(table):
    """By all orders of the columns."""
    total = 0
    for order in itertools.permutations(range(len(table))):
        part = 1
        for i, j in itertools.combinations(order, 2):
            part = -part if i > j else part
        for row, column in enumerate(order):
            part *= table[row][column]
        total += part
    return total


def drawn_tables(size, many, top):
    state = size + 99
    for _ in range(many):
        table = []
        for _ in range(size):
            row = []
            for _ in range(size):
                state = (state * 6364136223846793005 + 1442695040888963407) % 2 ** 64
                row.append((state >> 20) % (2 * top + 1) - top)
            table.append(row)
        yield table


def slow_ways(web, ring):
    ways = dict(walked(web, ring))
    return [ways.get(tie, 0) for tie in range(len(web[1]))]


def chord_rings(web):
    return [chord_ring(web, chord) for chord in chords(web)]


class Determinant(Refusing):
    def test_known_ones(self):
        self.assertEqual(determinant([]), 1)
        self.assertEqual(determinant([[7]]), 7)
        self.assertEqual(determinant([[-7]]), -7)
        self.assertEqual(determinant([[0]]), 0)
        self.assertEqual(determinant([[1, 2], [3, 4]]), -2)
        self.assertEqual(determinant([[0, 1], [1, 0]]), -1)
        self.assertEqual(determinant([[0, 0, 1], [1, 0, 0], [0, 1, 0]]), 1)
        self.assertEqual(determinant([[2, 0, 0], [0, 3, 0], [0, 0, -5]]), -30)

    def test_by_all_orders(self):
        for size in range(7):
            for top in (1, 2, 9, GREAT):
                for table in drawn_tables(size, 30 if size < 6 else 4, top):
                    self.assertEqual(determinant(table), slow_determinant(table))

    def test_those_that_are_nought(self):
        for size in range(1, 6):
            for table in drawn_tables(size, 8, 9):
                self.assertEqual(determinant(table[:-1] + [[0] * size]), 0)
                self.assertEqual(determinant([row[:-1] + [0] for row in table]), 0)
                if size > 1:
                    self.assertEqual(determinant(table[:-1] + [table[0]]), 0)
                    doubled = [2 * one - 3 * other for one, other in zip(table[0], table[-2])]
                    self.assertEqual(determinant(table[:-1] + [doubled]), 0)

    def test_noughts_where_a_row_would_lead(self):
        for places in itertools.product((0, 1), repeat=9):
            table = [list(places[3 * k:3 * k + 3]) for k in range(3)]
            self.assertEqual(determinant(table), slow_determinant(table))

    def test_numbers_of_sixty_figures(self):
        self.assertEqual(determinant([[GREAT, -GREAT], [GREAT, GREAT]]), 2 * GREAT ** 2)
        self.assertEqual(determinant([[GREAT, GREAT - 1], [GREAT - 1, GREAT - 2]]), GREAT * (GREAT - 2) - (GREAT - 1) ** 2)
        self.assertEqual(determinant([[-GREAT]]), -GREAT)

    def test_a_great_table(self):
        # Two on the way down and one beside it: 24.
        table = [[2 if i == j else 1 if abs(i - j) == 1 else 0 for j in range(23)] for i in range(23)]
        self.assertEqual(determinant(table), 24)

    def test_the_table_stays_as_it_is(self):
        for table in drawn_tables(4, 10, 3):
            self.own(determinant, table)
        row = [1, 2]
        table = [row, row]
        self.assertEqual(determinant(table), 0)
        self.assertEqual(table, [[1, 2], [1, 2]])


class RingTable(Refusing):
    def test_known_ones(self):
        self.assertEqual(ring_table(TRIANGLE, []), [])
        self.assertEqual(ring_table(TRIANGLE, [0b111]), [[3]])
        self.assertEqual(ring_table(TRIANGLE, [0b111, 0b111]), [[3, 3], [3, 3]])
        # Both go the tie 0 by 1.
        self.assertEqual(ring_table(TWINS, [0b011, 0b101]), [[2, 1], [1, 2]])
        # Tie 2 is gone by -1 from the tie 0 on, by 1 from the tie 1 on.
        self.assertEqual(ring_table(TWINS, [0b101, 0b110]), [[2, -1], [-1, 2]])
        self.assertEqual(ring_table(TOUCHING, [0b000111, 0b111000]), [[3, 0], [0, 3]])

    def test_against_the_walks(self):
        for web in samples.SMALL:
            rings = samples.slow_rings(web)
            ways = [slow_ways(web, ring) for ring in rings]
            slow = [[sum(a * b for a, b in zip(one, other)) for other in ways] for one in ways]
            self.assertEqual(self.own(ring_table, web, rings), slow)
            self.assertEqual(ring_table(web, rings[::-1]), [row[::-1] for row in slow[::-1]])

    def test_refusals_ring_by_ring(self):
        for web in samples.ALL:
            rings = chord_rings(web)
            for wrong in samples.wrong_sets(web):
                self.refused(BadSet, ring_table, web, [wrong])
                self.refused(BadSet, ring_table, web, rings + [wrong])
                self.refused(BadSet, ring_table, web, rings + [wrong, 0])
                self.refused(NotRing, ring_table, web, rings + [0, wrong])
            self.refused(NotRing, ring_table, web, rings + [0])
        self.refused(NotRing, ring_table, TRIANGLE, [0b111, 0b011])


class RingWorth(Refusing):
    def test_known_ones(self):
        self.assertEqual(ring_worth(TRIANGLE, [0b111]), 1)
        self.assertEqual(ring_worth(TWINS, [0b011, 0b101]), 1)
        self.assertEqual(ring_worth(TWINS, [0b011, 0b011]), 0)
        for web in (LONE, LOOSE, TREE):
            self.assertEqual(ring_worth(web, []), 1)

    def test_worths_above_one(self):
        self.assertEqual(self.own(ring_worth, samples.CROSSED, samples.CROSSED_BASE), 3)
        self.assertIs(is_base(samples.CROSSED, samples.CROSSED_BASE), True)
        self.assertEqual(ring_worth(SQUARE, [0b001111, 0b111100, 0b110011]), 2)
        self.assertIs(is_base(SQUARE, [0b001111, 0b111100, 0b110011]), False)

    def test_the_rings_of_chords(self):
        for web in samples.ALL:
            self.assertEqual(self.own(ring_worth, web, chord_rings(web)), 1)
            self.assertEqual(ring_worth(web, chord_rings(web)[::-1]), 1)

    def test_against_the_walks(self):
        for web in samples.SMALL:
            if rank(web) <= 3:
                crossed = chords(web)
                for rings in itertools.product(samples.slow_rings(web), repeat=rank(web)):
                    table = [[slow_ways(web, ring)[chord] for chord in crossed] for ring in rings]
                    told = ring_worth(web, list(rings))
                    self.assertEqual(told, abs(slow_determinant(table)))
                    # A determinant is odd just where the rings are a base.
                    self.assertEqual(told % 2 == 1, is_base(web, list(rings)))

    def test_the_worth_of_a_base_is_odd(self):
        for web in samples.ALL + samples.LEVEL:
            told = ring_worth(web, [ring for ring, marks, worths in least_base(web)])
            self.assertEqual(told % 2, 1)
            self.assertGreater(told, 0)

    def test_refusals_in_their_order(self):
        for web in samples.ALL:
            rings = chord_rings(web)
            for wrong in samples.wrong_sets(web) + [0]:
                self.refused(NoBase, ring_worth, web, rings + [wrong])
                if rings:
                    kind = NotRing if wrong == 0 else BadSet
                    self.refused(kind, ring_worth, web, rings[1:] + [wrong])
                    self.refused(NoBase, ring_worth, web, rings[2:] + [wrong] if rings[1:] else [])
                if len(rings) > 1:
                    self.refused(NotRing, ring_worth, web, [0, wrong] + rings[2:])
        self.refused(NoBase, ring_worth, SQUARE, [0b001111])
        self.refused(NoBase, ring_worth, SQUARE, [])


if __name__ == "__main__":
    unittest.main()
