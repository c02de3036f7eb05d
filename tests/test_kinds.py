import itertools
import unittest

from ringbase.errors import BadSet, NotRing, TooMany
from ringbase.kinds import paper_judged, ring_paper
from ringbase.webs import rank
from tests import samples
from tests.refusing import Refusing
from tests.samples import BIG, BUNCH, FULL, SQUARE, TREE, TRIANGLE, TWINS

LITTLE = [web for web in samples.SMALL + samples.LEVEL if 0 < rank(web) <= 4 and len(web[1]) <= 6]
# Four points, each joined to each by ties of one length: its rings of four ties are of the kind none.
FOUR = (4, ((0, 1, 1), (0, 2, 1), (0, 3, 1), (1, 2, 1), (1, 3, 1), (2, 3, 1)))
# Three ways from 0 to 1, 1, 2 and 2 long: the two rings that are 3 long are in every least base, the third in none.
THREE_WAYS = (4, ((0, 1, 1), (0, 2, 1), (2, 1, 1), (0, 3, 1), (3, 1, 1)))
# Three ways of one length: each ring is the sum of the two others, which are as long.
ALIKE = (2, ((0, 1, 5), (0, 1, 5), (1, 0, 5)))
# Nothing but the rank is wrong in these.
EIGHT = (2, tuple((0, 1, 1 + k // 3) for k in range(9)))
NINE = (2, tuple((0, 1, 1 + k // 3) for k in range(10)))


def slow_kind(web, ring, rings):
    length = samples.slow_length(web, ring)
    shorter = [one for one in rings if samples.slow_length(web, one) < length]
    others = [one for one in rings if samples.slow_length(web, one) <= length and one != ring]
    if ring in samples.slow_span(shorter):
        return "none"
    return "some" if ring in samples.slow_span(others) else "every"


def ascends(row):
    return all(one < other for one, other in zip(row, row[1:]))


def slow_judged(web, ring, paper, rings):
    """Whether a paper is right, by the document's words."""
    length = samples.slow_length(web, ring)

    def marks_part(marks, others):
        if not 0 <= marks < 2 ** len(web[1]) or samples.slow_common(marks, ring) % 2 == 0:
            return False
        return all(samples.slow_common(marks, one) % 2 == 0 for one in others)

    def adds_up(parts, allowed):
        return ascends(parts) and all(one in allowed for one in parts) and samples.added(parts) == ring

    shorter = [one for one in rings if samples.slow_length(web, one) < length]
    others = [one for one in rings if samples.slow_length(web, one) <= length and one != ring]
    if paper[0] == "none":
        return adds_up(paper[1], shorter)
    if paper[0] == "every":
        return marks_part(paper[1], others)
    return marks_part(paper[1], shorter) and adds_up(paper[2], others)


class RingPaper(Refusing):
    def test_known_ones(self):
        self.assertEqual(ring_paper(TWINS, 0b110), ("none", [0b011, 0b101]))
        self.assertEqual(ring_paper(TRIANGLE, 0b111)[0], "every")
        self.assertEqual([ring_paper(TWINS, ring)[0] for ring in (0b101, 0b011)], ["every", "every"])
        self.assertEqual([ring_paper(ALIKE, ring)[0] for ring in (0b011, 0b101, 0b110)], ["some"] * 3)
        self.assertEqual(ring_paper(ALIKE, 0b011)[2], [0b101, 0b110])
        self.assertEqual([ring_paper(THREE_WAYS, ring)[0] for ring in (0b00111, 0b11001, 0b11110)],
                         ["every", "every", "none"])
        self.assertEqual(ring_paper(SQUARE, 0b110011)[0], "none")

    def test_four_points(self):
        threes = [ring for ring in samples.slow_rings(FOUR) if samples.slow_length(FOUR, ring) == 3]
        fours = [ring for ring in samples.slow_rings(FOUR) if samples.slow_length(FOUR, ring) == 4]
        self.assertEqual((len(threes), len(fours)), (4, 3))
        self.assertEqual({ring_paper(FOUR, ring)[0] for ring in threes}, {"some"})
        self.assertEqual({ring_paper(FOUR, ring)[0] for ring in fours}, {"none"})

    def test_kinds_by_going_through_all_rings(self):
        seen = set()
        for web in samples.SMALL + samples.LEVEL:
            rings = samples.slow_rings(web)
            for ring in rings:
                paper = self.own(ring_paper, web, ring)
                self.assertIs(type(paper), tuple)
                self.assertEqual(paper[0], slow_kind(web, ring, rings))
                self.assertTrue(slow_judged(web, ring, paper, rings))
                seen.add(paper[0])
        self.assertEqual(seen, {"none", "some", "every"})

    def test_kinds_by_all_least_bases(self):
        for web in LITTLE:
            rings = samples.slow_rings(web)
            bases = [row for row in itertools.combinations(rings, rank(web)) if len(samples.slow_span(row)) == 2 ** rank(web)]
            totals = [sum(samples.slow_length(web, ring) for ring in base) for base in bases]
            leasts = [base for base, total in zip(bases, totals) if total == min(totals)]
            for ring in rings:
                having = sum(ring in base for base in leasts)
                kind = "none" if having == 0 else "every" if having == len(leasts) else "some"
                self.assertEqual(ring_paper(web, ring)[0], kind)

    def test_great_lengths(self):
        web = (2, ((0, 1, BIG), (1, 0, BIG), (0, 1, BIG - 1), (0, 1, BIG)))
        self.assertEqual(ring_paper(web, 0b1010)[0], "none")
        self.assertEqual(ring_paper(web, 0b0101)[0], "every")

    def test_rank_eight(self):
        rings = samples.slow_rings(EIGHT)
        self.assertEqual(rank(EIGHT), 8)
        for ring in rings:
            paper = ring_paper(EIGHT, ring)
            self.assertEqual(paper[0], slow_kind(EIGHT, ring, rings))
            self.assertTrue(slow_judged(EIGHT, ring, paper, rings))

    def test_refusals_in_their_order(self):
        for web in (NINE, BUNCH, FULL):
            for ring in (0b11, 0, 1, -1, 2 ** 30):
                self.refused(TooMany, ring_paper, web, ring)
        for web in samples.SMALL:
            rings = samples.slow_rings(web)
            for wrong in samples.wrong_sets(web):
                self.refused(BadSet, ring_paper, web, wrong)
            for tie_set in range(2 ** len(web[1])):
                if tie_set not in rings:
                    self.refused(NotRing, ring_paper, web, tie_set)


class PaperJudged(Refusing):
    def papers_put_otherwise(self, web, ring, rings):
        """Papers of each form: that which is told, with one thing put otherwise, and any others."""
        told = ring_paper(web, ring)
        last = 2 ** len(web[1])
        for marks in list(range(last)) + samples.wrong_sets(web):
            yield ("every", marks)
        rows = [[], [ring], [0], [0, ring], [1], [-1], [last], [last + ring], rings, rings[::-1]]
        rows += [[one, other] for one in rings for other in rings]
        if told[0] != "every":
            parts = told[-1]
            rows += [parts, parts[::-1], parts[1:], parts[:-1], parts + parts, sorted(parts + parts), [0] + parts]
            rows += [sorted(parts + [one]) for one in rings] + [sorted(parts + [one, one]) for one in rings]
            rows += [parts[:-1] + [parts[-1] + last], [parts[0] - last] + parts[1:]]
        for row in rows:
            yield ("none", row)
            yield ("some", told[1] if told[0] == "some" else ring & -ring, row)
        if told[0] == "some":
            for marks in list(range(last)) + samples.wrong_sets(web):
                yield ("some", marks, told[2])

    def test_what_is_told_is_right(self):
        for web in samples.SMALL + samples.LEVEL + [EIGHT]:
            for ring in samples.slow_rings(web):
                self.assertIs(self.own(paper_judged, web, ring, ring_paper(web, ring)), True)

    def test_papers_of_each_form(self):
        for web in LITTLE + [FOUR, THREE_WAYS, ALIKE]:
            rings = samples.slow_rings(web)
            for ring in rings:
                for paper in self.papers_put_otherwise(web, ring, rings):
                    self.assertIs(paper_judged(web, ring, paper), slow_judged(web, ring, paper, rings), (web, ring, paper))

    def test_the_three_kinds_shut_one_another_out(self):
        for web in LITTLE:
            rings = samples.slow_rings(web)
            for ring in rings:
                kinds = {paper[0] for paper in self.papers_put_otherwise(web, ring, rings)
                         if paper_judged(web, ring, paper)}
                self.assertEqual(kinds, {slow_kind(web, ring, rings)})

    def test_single_faults(self):
        self.assertIs(paper_judged(TWINS, 0b110, ("none", [0b011, 0b101])), True)
        self.assertIs(paper_judged(TWINS, 0b110, ("none", [0b101, 0b011])), False)
        self.assertIs(paper_judged(TWINS, 0b110, ("none", [0b011])), False)
        # A sum, but of a longer ring, or of one as long.
        self.assertIs(paper_judged(TWINS, 0b101, ("none", [0b011, 0b110])), False)
        self.assertIs(paper_judged(ALIKE, 0b011, ("none", [0b101, 0b110])), False)
        self.assertIs(paper_judged(ALIKE, 0b011, ("some", 0b001, [0b101, 0b110])), True)
        self.assertIs(paper_judged(ALIKE, 0b011, ("some", 0b011, [0b101, 0b110])), False)
        self.assertIs(paper_judged(ALIKE, 0b011, ("some", 0b001, [0b011])), False)
        self.assertIs(paper_judged(ALIKE, 0b011, ("some", 0b1001, [0b101, 0b110])), False)
        self.assertIs(paper_judged(ALIKE, 0b011, ("every", 0b001)), False)
        self.assertIs(paper_judged(TRIANGLE, 0b111, ("every", 0b010)), True)
        self.assertIs(paper_judged(TRIANGLE, 0b111, ("every", 0b011)), False)
        self.assertIs(paper_judged(TRIANGLE, 0b111, ("every", 0b1010)), False)
        self.assertIs(paper_judged(TRIANGLE, 0b111, ("every", -1)), False)

    def test_refusals_in_their_order(self):
        papers = [("none", []), ("some", 0, []), ("every", 0), ("none", [-1])]
        for paper in papers:
            for web in (NINE, BUNCH, FULL):
                for ring in (0b11, 0, 1, -1, 2 ** 30):
                    self.refused(TooMany, paper_judged, web, ring, paper)
            for web in (TRIANGLE, TREE, SQUARE):
                for wrong in samples.wrong_sets(web):
                    self.refused(BadSet, paper_judged, web, wrong, paper)
                self.refused(NotRing, paper_judged, web, 0, paper)
                self.refused(NotRing, paper_judged, web, 1, paper)


if __name__ == "__main__":
    unittest.main()
