import itertools
import re
import unittest

from ringbase.errors import NoText
from ringbase.texts import read_page, web_text
from tests import samples
from tests.refusing import Refusing
from tests.samples import BIG

WEB = "points 3\ntie 0 1 5\ntie 1 2 6\ntie 0 2 7"
NUMBER = r"(?:0|[1-9][0-9]{0,59})"
SIGNED = rf"(?:0|-?[1-9][0-9]{{0,59}})"


def slow_page(text):
    """What a page tells, or the number of the first row that can't stand there."""
    points, ties, asked = None, [], []
    for number, row in enumerate(text.split("\n"), start=1):
        words = row.split(" ")
        stands = False
        if number == 1:
            if re.fullmatch(f"points {NUMBER}", row, re.ASCII) and 1 <= int(words[1]) <= 10:
                points, stands = int(words[1]), True
        elif words[0] == "tie":
            if re.fullmatch(f"tie {NUMBER} {NUMBER} {NUMBER}", row) and not asked and len(ties) < 24:
                one, other, length = map(int, words[1:])
                if one < points and other < points and one != other and 1 <= length <= BIG:
                    ties.append((one, other, length))
                    stands = True
        elif row in ("lengths", "base", "forests"):
            asked.append((row, ()))
            stands = True
        elif re.fullmatch(f"(even|cut|odd)( {NUMBER})*", row):
            numbers = tuple(map(int, words[1:]))
            if list(numbers) == sorted(set(numbers) & set(range(len(ties)))):
                asked.append((words[0], numbers))
                stands = True
        elif re.fullmatch(f"heights {NUMBER}( {SIGNED})*", row):
            if words[1] != "1" and len(words) == 2 + len(ties):
                asked.append(("heights", tuple(map(int, words[1:]))))
                stands = True
        if not stands:
            return number
    return ((points, tuple(ties)), asked)


# Rows none of which can stand behind the rows of WEB.
BAD_ROWS = [
    "", " ", "\t", "word", "Lengths", "LENGTHS", "length", "tie", "tie 0 1", "tie 0 1 5 5", "tie 0 0 5", "tie 2 2 5",
    "tie 0 3 5", "tie 3 0 5", "tie -1 0 5", "tie 0 -1 5", "tie 0 1 0", "tie 0 1 -1", f"tie 0 1 {BIG + 1}", "tie 0 1 05",
    "tie 00 1 5", "tie 0 01 5", "tie 0 1 5 ", " tie 0 1 5", "tie  0 1 5", "tie 0  1 5", "tie\t0 1 5", "tie 0 1\t5",
    "tie 0 1 5\t", "tie 0 1 +5", "tie 0 1 5.0", "tie 0 1 5_0", "tie 0 1 x", "tie 0 1 " + "1" * 61, "Tie 0 1 5",
    "points 3", "points", "points 3 3", "lengths 0", "lengths ", " lengths", "lengths\t", "\tlengths", "base 0", "base ",
    "forests 1", "forests ", "even 3", "even 0 0", "even 1 0", "even 0 2 1", "even -0", "even -1", "even 00", "even 01",
    "even ", "even  0", "even 0  1", "even 0 ", "even\t0", "even 0\t1", "even 0 1 2 3", "even x", "cut 3", "cut 1 1",
    "cut 2 1", "cut -1", "cut 0 ", "odd 3", "odd 2 2", "odd 2 0", "odd 02", "odd +1", "heights", "heights 0",
    "heights 0 1 2", "heights 0 1 2 3 4", "heights 1 1 2 3", "heights -2 1 2 3", "heights -0 1 2 3", "heights 02 1 2 3",
    "heights 0 1 2 -0", "heights 0 -0 2 3", "heights 0 1 02 3", "heights 0 1 -02 3", "heights 0 1 2 3 ",
    "heights 0  1 2 3", "heights 0 1 2 --3", "heights 0 1 2 -", "heights 0 1 2 +3", "heights 0 1 2 3-",
    "heights 0 1 - 3", "heights 0 1 2 " + "9" * 61, "heights 0 1 2 -" + "9" * 61, "heights " + "9" * 61 + " 1 2 3",
    "heights x 1 2 3", "heights 0 1 2 x", "heights 0 1 2 0x1", "heights\t0 1 2 3", "even " + "9" * 60, "even " + "9" * 61,
]


class WebText(Refusing):
    def test_known_ones(self):
        self.assertEqual(web_text(samples.LONE), "points 1")
        self.assertEqual(web_text(samples.LOOSE), "points 10")
        self.assertEqual(web_text(samples.TRIANGLE), "points 3\ntie 0 1 2\ntie 1 2 3\ntie 2 0 4")
        self.assertEqual(web_text(samples.TWINS), "points 2\ntie 0 1 1\ntie 1 0 1" + "0" * 30 + "\ntie 0 1 7")

    def test_read_back_to_the_web(self):
        texts = {}
        for web in samples.ALL + samples.LEVEL:
            text = self.own(web_text, web)
            self.assertEqual(self.own(read_page, text), (web, []))
            self.assertEqual(texts.setdefault(text, web), web)


class ReadPage(Refusing):
    def refused_at(self, row, text):
        self.assertEqual(self.refused(NoText, read_page, text).row, row, repr(text))

    def test_known_ones(self):
        web = (3, ((0, 1, 5), (1, 2, 6), (0, 2, 7)))
        rows = {"lengths": ("lengths", ()), "base": ("base", ()), "forests": ("forests", ()), "even": ("even", ()),
                "even 0 1 2": ("even", (0, 1, 2)), "cut": ("cut", ()), "cut 1": ("cut", (1,)), "odd": ("odd", ()),
                "odd 0 2": ("odd", (0, 2)), "heights 0 1 -2 0": ("heights", (0, 1, -2, 0)),
                "heights 2 0 0 0": ("heights", (2, 0, 0, 0)), "heights 10 -1 -10 10": ("heights", (10, -1, -10, 10))}
        for row, told in rows.items():
            self.assertEqual(self.own(read_page, WEB + "\n" + row), (web, [told]))
        told = self.own(read_page, "\n".join([WEB] + list(rows)))
        self.assertEqual(told, (web, list(rows.values())))
        self.assertEqual(({type(told), type(told[0])} | {type(pair) for pair in told[1]}), {tuple})

    def test_no_ties_told(self):
        page = "points 4\nlengths\neven\ncut\nodd\nheights 0\nheights 7\nforests"
        words = [("lengths", ()), ("even", ()), ("cut", ()), ("odd", ()), ("heights", (0,)), ("heights", (7,)), ("forests", ())]
        self.assertEqual(read_page(page), ((4, ()), words))
        self.refused_at(2, "points 4\neven 0")
        self.refused_at(2, "points 4\nheights 0 0")

    def test_bounds_of_points(self):
        for number in range(1, 11):
            self.assertEqual(read_page(f"points {number}"), ((number, ()), []))
        for wrong in ("0", "11", "-1", "-0", "01", "010", "", " 1", "1 ", "1 1", "x", "+1", "1.", "\t1", "1\t", "1" * 61,
                      "1" * 4000, "9" * 60, "00", "1_0", "1e1", "0x1"):
            self.refused_at(1, f"points {wrong}"[:4000])
            self.refused_at(1, f"points {wrong}"[:3000] + "\nlengths\nword")

    def test_first_rows_that_are_none(self):
        for row in ("", "points", "Points 3", "point 3", " points 3", "\tpoints 3", "points\t3", "points  3", "tie 0 1 5",
                    "lengths", "base", "even", "heights 0", "forests", "\t", " ", "3", "-"):
            self.refused_at(1, row)
            self.refused_at(1, row + "\npoints 3")

    def test_the_empty_text(self):
        self.refused_at(1, "")
        self.refused_at(1, "\n")
        self.refused_at(1, "\npoints 3")

    def test_a_line_feed_at_the_end_makes_a_row(self):
        self.refused_at(2, "points 3\n")
        self.refused_at(5, WEB + "\n")
        self.refused_at(6, WEB + "\nlengths\n")
        self.refused_at(5, WEB + "\n\nlengths")

    def test_bad_rows_at_each_place(self):
        for row in BAD_ROWS:
            self.refused_at(5, f"{WEB}\n{row}")
            self.refused_at(5, f"{WEB}\n{row}\nlengths\n{row}")
            self.refused_at(6, f"{WEB}\nbase\n{row}\nlengths")
            self.refused_at(7, f"{WEB}\nbase\neven 0 1\n{row}")
            self.refused_at(1, f"{row}\nlengths" if row != "points 3" else "points 3 \n" + row)

    def test_a_tie_behind_an_asking_row(self):
        self.refused_at(6, WEB + "\nlengths\ntie 0 1 5")
        self.refused_at(3, "points 3\neven\ntie 0 1 5\nlengths")
        self.refused_at(3, "points 3\nforests\npoints 3")

    def test_twenty_four_ties_and_the_next(self):
        rows = ["points 2"] + ["tie 0 1 1"] * 24
        self.assertEqual(len(read_page("\n".join(rows))[0][1]), 24)
        self.assertEqual(read_page("\n".join(rows + ["even 0 23"]))[1], [("even", (0, 23))])
        self.refused_at(26, "\n".join(rows + ["tie 0 1 1"]))
        self.refused_at(26, "\n".join(rows + ["tie 0 1 1", "lengths"]))
        self.refused_at(26, "\n".join(rows + ["even 24"]))

    def test_numbers_of_sixty_figures(self):
        nines = "9" * 60
        page = f"points 2\ntie 0 1 {BIG}\ntie 1 0 1\nheights {nines} {nines} -{nines}"
        great = 10 ** 60 - 1
        self.assertEqual(read_page(page), ((2, ((0, 1, BIG), (1, 0, 1))), [("heights", (great, great, -great))]))
        self.refused_at(4, page.replace(f" -{nines}", f" -{nines}9"))
        self.refused_at(4, page.replace(f"heights {nines}", f"heights {nines}0"))
        self.refused_at(2, page.replace(str(BIG), str(BIG + 1)))
        self.refused_at(2, page.replace(str(BIG), str(BIG * 10)))
        self.assertEqual(read_page(page.replace("heights " + nines, "heights 1" + "0" * 59))[1][0][1][0], 10 ** 59)

    def test_rests(self):
        for rest in ("0", "2", "3", "10", "9" * 60):
            self.assertEqual(read_page(f"points 1\nheights {rest}")[1], [("heights", (int(rest),))])
        for rest in ("1", "-0", "-1", "-2", "00", "02", "01", "", "9" * 61):
            self.refused_at(2, f"points 1\nheights {rest}")

    def test_the_first_of_several_bad_rows(self):
        self.refused_at(2, "points 3\nx\ny\nz")
        self.refused_at(4, "points 3\ntie 0 1 1\ntie 1 2 1\ntie 1 1 1\nlengths 1\nx")

    def test_long_texts(self):
        page = WEB + "\nbase" * ((4000 - len(WEB)) // 5)
        self.assertEqual(len(read_page(page)[1]), (4000 - len(WEB)) // 5)
        self.refused_at(1, "x" * 4000)
        self.refused_at(1, "\n" * 4000)
        self.refused_at(1, " " * 4000)
        self.refused_at(1, "points " + "1" * 3993)
        self.refused_at(2, "points 3\ntie 0 1 " + "7" * 3980)
        self.refused_at(2, "points 1\nheights 0 " + "-" * 3980)

    def test_words_put_together(self):
        words = ["tie", "even", "heights", "0", "1", "2", "-1", "", "base"]
        for many in (1, 2, 3, 4):
            for row in itertools.product(words, repeat=many):
                self.as_the_slow_one("points 3\ntie 0 1 2\n" + " ".join(row))

    def test_pages_with_one_sign_put_otherwise(self):
        page = "points 3\ntie 0 1 5\ntie 1 2 10\nlengths\neven 0 1\ncut\nodd 1\nheights 12 -3 40\nforests\nbase"
        for place in range(len(page)):
            for sign in " \n\t-0159at~!":
                self.as_the_slow_one(page[:place] + sign + page[place + 1:])
                self.as_the_slow_one(page[:place] + sign + page[place:])
            self.as_the_slow_one(page[:place] + page[place + 1:])
            self.as_the_slow_one(page[:place])

    def test_rows_put_together(self):
        rows = ["points 3", "tie 0 1 5", "tie 1 2 6", "tie 0 3 6", "even 0", "even 1", "heights 0", "heights 0 -4", "base"]
        for many in (1, 2, 3, 4):
            for page in itertools.product(rows, repeat=many):
                self.as_the_slow_one("\n".join(page))

    def as_the_slow_one(self, text):
        slow = slow_page(text)
        if isinstance(slow, int):
            self.refused_at(slow, text)
        else:
            self.assertEqual(read_page(text), slow, repr(text))


if __name__ == "__main__":
    unittest.main()
