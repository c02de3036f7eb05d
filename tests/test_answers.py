import unittest

from ringbase.answers import answered
from ringbase.bases import least_base
from ringbase.errors import NoText
from ringbase.forests import forest_many
from ringbase.rings import is_ring, walked
from ringbase.texts import web_text
from tests import samples
from tests.refusing import Refusing
from tests.samples import APART, BIG, BUNCH, FULL, LOOSE, SQUARE, TREE, TRIANGLE, TWINS

GREAT = 10 ** 60 - 1


def page(web, *rows):
    return "\n".join((web_text(web),) + rows)


def ring_read(word):
    return sum(2 ** int(tie) for tie in word.split("-"))


def ring_written(ring):
    return "-".join(str(tie) for tie in samples.slow_ties(ring))


def asked_ties(word, tie_set):
    return " ".join([word] + [str(tie) for tie in samples.slow_ties(tie_set)])


class Known(Refusing):
    def test_each_of_the_seven(self):
        self.assertEqual(answered(page(TRIANGLE, "lengths")), "lengths 9")
        self.assertEqual(answered(page(TRIANGLE, "base")), "base 0-1-2")
        self.assertEqual(answered(page(TRIANGLE, "even 0 1 2")), "even yes 0-1-2")
        self.assertEqual(answered(page(TRIANGLE, "even 1")), "even no 1")
        self.assertEqual(answered(page(TRIANGLE, "even 1 2")), "even no 0")
        self.assertEqual(answered(page(TRIANGLE, "cut 0")), "cut no 0-1-2")
        self.assertEqual(answered(page(TRIANGLE, "odd 1")), "odd 0-1-2")
        self.assertEqual(answered(page(TRIANGLE, "odd 0 1")), "odd none")
        self.assertEqual(answered(page(TRIANGLE, "heights 0 1 2 -2")), "heights no 0-1-2")
        self.assertEqual(answered(page(TRIANGLE, "forests")), "forests 3")

    def test_several_at_once_in_order(self):
        told = answered(page(TWINS, "forests", "lengths", "base", "odd 2", "forests", "even 0 1"))
        self.assertEqual(told, f"forests 3\nlengths 8 {BIG + 1}\nbase 0-2 0-1\nodd 0-2\nforests 3\neven yes 0-1")

    def test_words_alone(self):
        self.assertEqual(answered(page(TREE, "lengths", "base", "even", "odd 0 2", "forests")),
                         "lengths\nbase\neven yes\nodd none\nforests 1")
        told = answered("points 1\nlengths\nbase\neven\nodd\nheights 0\nheights 2\nforests")
        self.assertEqual(told.split("\n")[:4], ["lengths", "base", "even yes", "odd none"])

    def test_no_ties_told(self):
        rows = answered(page(LOOSE, "lengths", "base", "even", "cut", "odd", "heights 0", "heights 5", "forests")).split("\n")
        self.assertEqual([rows[k] for k in (0, 1, 2, 4, 7)], ["lengths", "base", "even yes", "odd none", "forests 1"])
        self.assertEqual(rows[3][:7], "cut yes")
        self.assertEqual([row[:11] for row in rows[5:7]], ["heights yes"] * 2)

    def test_a_page_that_asks_nothing(self):
        for web in samples.ALL:
            self.assertEqual(answered(web_text(web)), "")

    def test_ties_of_two_figures(self):
        self.assertEqual(answered(page(FULL, asked_ties("even", 2 ** 10 - 1))), "even yes 0-1-2-3-4-5-6-7-8-9")
        self.assertEqual(answered(page(BUNCH, "even 10 23")), "even yes 10-23")
        self.assertEqual(answered(page(BUNCH, "odd 23")), "odd 0-23")


class Checked(Refusing):
    def one_row(self, web, row):
        told = self.own(answered, page(web, row))
        self.assertNotIn("\n", told)
        words = told.split(" ")
        self.assertNotIn("", words)
        self.assertEqual(words[0], row.split(" ")[0])
        return words[1:]

    def test_lengths_and_base(self):
        for web in samples.ALL + samples.LEVEL:
            base = least_base(web)
            self.assertEqual(self.one_row(web, "base"), [ring_written(part[0]) for part in base])
            self.assertEqual(self.one_row(web, "lengths"), [str(samples.slow_length(web, part[0])) for part in base])

    def test_even(self):
        for web in samples.SMALL:
            rings = samples.slow_rings(web)
            for tie_set in samples.slow_evens(web) + samples.some_sets(web):
                odd = samples.slow_odd(web, samples.slow_ties(tie_set))
                words = self.one_row(web, asked_ties("even", tie_set))
                if odd:
                    self.assertEqual(words, ["no", str(odd[0])])
                else:
                    parts = [ring_read(word) for word in words[1:]]
                    self.assertEqual(words[0], "yes")
                    self.assertTrue(set(parts) <= set(rings))
                    self.assertEqual((samples.added(parts), sum(parts)), (tie_set, tie_set))
                    self.assertEqual(words[1:], [ring_written(part) for part in parts])

    def test_cut(self):
        for web in samples.ALL:
            sides = [list(range(web[0]))[::2], [0], list(range(1, web[0]))]
            for tie_set in samples.some_sets(web) + [samples.slow_cut(web, side) for side in sides]:
                words = self.one_row(web, asked_ties("cut", tie_set))
                if words[0] == "yes":
                    points = [int(word) for word in words[1:]]
                    self.assertEqual(points, sorted(set(points) & set(range(web[0]))))
                    self.assertEqual(samples.slow_cut(web, points), tie_set)
                else:
                    self.assertEqual((words[0], len(words)), ("no", 2))
                    self.assertTrue(is_ring(web, ring_read(words[1])))
                    self.assertEqual(samples.slow_common(ring_read(words[1]), tie_set) % 2, 1)
                    self.assertEqual(words[1], ring_written(ring_read(words[1])))

    def test_odd(self):
        for web in samples.SMALL:
            rings = samples.slow_rings(web)
            for tie_set in samples.some_sets(web) + [samples.slow_cut(web, [0])]:
                odd = [ring for ring in rings if samples.slow_common(ring, tie_set) % 2]
                words = self.one_row(web, asked_ties("odd", tie_set))
                self.assertEqual(len(words), 1)
                if odd:
                    self.assertIn(ring_read(words[0]), odd)
                    least = min(samples.slow_length(web, ring) for ring in odd)
                    self.assertEqual(samples.slow_length(web, ring_read(words[0])), least)
                    self.assertEqual(words[0], ring_written(ring_read(words[0])))
                else:
                    self.assertEqual(words, ["none"])

    def test_heights(self):
        for web in samples.ALL:
            many = len(web[1])
            points = [(p * 7) % 5 - 2 for p in range(web[0])]
            rows = [[0] * many, [(-1) ** k * k for k in range(many)], [12] * many, [GREAT] * many, [-GREAT] * many,
                    [points[tie[1]] - points[tie[0]] for tie in web[1]]]
            for row in rows:
                for rest in (0, 2, 3, 12) if GREAT in row or -GREAT in row else (0, 2, 3, 12, GREAT):
                    asked = " ".join(["heights", str(rest)] + [str(number) for number in row])
                    if len(page(web, asked)) <= 4000:
                        self.heights_are_right(web, row, rest, self.one_row(web, asked))

    def heights_are_right(self, web, row, rest, words):
        if words[0] == "yes":
            heights = [int(word) for word in words[1:]]
            self.assertEqual(len(heights), web[0])
            for k, (one, other, _) in enumerate(web[1]):
                off = heights[other] - heights[one] - row[k]
                self.assertEqual(off % rest if rest else off, 0)
        else:
            self.assertEqual((words[0], len(words)), ("no", 2))
            turned = sum(way * row[tie] for tie, way in walked(web, ring_read(words[1])))
            self.assertNotEqual(turned % rest if rest else turned, 0)

    def test_forests(self):
        for web in samples.ALL:
            self.assertEqual(self.one_row(web, "forests"), [str(forest_many(web))])
        self.assertEqual(answered(page(APART, "forests")), "forests 15")
        self.assertEqual(answered(page(SQUARE, "forests")), "forests 16")

    def test_each_row_is_answered_as_it_is_alone(self):
        for web in samples.ALL:
            rows = ["base", "odd", "lengths", asked_ties("odd", 2 ** len(web[1]) - 1), "even", "forests", "base", "cut",
                    asked_ties("cut", 2 ** len(web[1]) // 3), asked_ties("even", 2 ** len(web[1]) // 3), "odd"]
            told = answered(page(web, *rows)).split("\n")
            self.assertEqual(told, [answered(page(web, row)) for row in rows])

    def test_long_pages(self):
        for web in (BUNCH, FULL):
            text = web_text(web)
            many = (4000 - len(text)) // 5
            told = answered(text + "\nbase" * many).split("\n")
            self.assertEqual((len(told), len(set(told))), (many, 1))


class Refusals(Refusing):
    def test_texts_that_are_no_page(self):
        for text, row in (("", 1), ("points 3\n", 2), ("lengths", 1), ("points 2\ntie 0 1 1\neven 1", 3),
                          ("points 2\nbase\nx\ny", 3), ("points 2\nlengths\ntie 0 1 1", 3), ("points 1\nheights 1", 2)):
            self.assertEqual(self.refused(NoText, answered, text).row, row)

    def test_a_bad_row_behind_good_ones(self):
        text = page(FULL, "base", "lengths", "even", "word")
        self.assertEqual(self.refused(NoText, answered, text).row, 29)


if __name__ == "__main__":
    unittest.main()
