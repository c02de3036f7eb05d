"""Webs as texts, and pages: a web's text and behind it rows that ask."""

from ringbase.errors import BadWeb, NoText
from ringbase.webs import made_web

FIGURES = "0123456789"
MOST_FIGURES = 60
BARE_WORDS = ("lengths", "base", "forests")
TIES_WORDS = ("even", "cut", "odd")


def row_text(word, numbers):
    """A word and numbers behind it, one blank between two of them."""
    return " ".join([word] + [str(number) for number in numbers])


def web_text(web):
    """The text of a web."""
    return "\n".join([row_text("points", [web[0]])] + [row_text("tie", tie) for tie in web[1]])


def is_number(word):
    """Whether a word is a number from 0 on as texts write it."""
    if len(word) == 0 or len(word) > MOST_FIGURES:
        return False
    return all([sign in FIGURES for sign in word]) and (word[0] != "0" or word == "0")


def is_signed(word):
    """Whether a word is a number as rows of heights write it, which may be below nought."""
    return is_number(word) or (word[:1] == "-" and word != "-0" and is_number(word[1:]))


def numbers_read(words):
    """The list of the numbers that words write, None where one of them writes none."""
    if not all([is_number(word) for word in words]):
        return None
    return [int(word) for word in words]


def web_grown(web, words):
    """The web with the tie of a row, or of a first row's points where there is no web yet; None if the row is bad."""
    numbers = numbers_read(words[1:])
    if numbers is None:
        return None
    try:
        if web is not None:
            return made_web(web[0], list(web[1]) + [numbers])
        if words[0] == "points" and len(numbers) == 1:
            return made_web(numbers[0], [])
    except BadWeb:
        return None
    return None


def ascend_below(numbers, bound):
    """Whether each number is greater than the one ahead of it, and all are below a bound."""
    for place, number in enumerate(numbers):
        if number >= bound or (place > 0 and number <= numbers[place - 1]):
            return False
    return True


def ties_asked(web, words):
    numbers = numbers_read(words[1:])
    if numbers is None or not ascend_below(numbers, len(web[1])):
        return None
    return (words[0], tuple(numbers))


def heights_asked(web, words):
    rest = numbers_read(words[1:2])
    row = words[2:]
    if rest is None or rest in ([], [1]) or len(row) != len(web[1]):
        return None
    if not all([is_signed(word) for word in row]):
        return None
    return (words[0], tuple(rest + [int(word) for word in row]))


def asked_by(web, words):
    """The pair of the word and the numbers of an asking row, None where the row can't stand there."""
    if words[0] in BARE_WORDS and len(words) == 1:
        return (words[0], ())
    if words[0] in TIES_WORDS:
        return ties_asked(web, words)
    if words[0] == "heights":
        return heights_asked(web, words)
    return None


def read_page(text):
    """The pair of a page's web and the list of what its asking rows ask."""
    web = None
    asked = []
    for number, row in enumerate(text.split("\n"), start=1):
        words = row.split(" ")
        if web is None or (asked == [] and words[0] == "tie"):
            web = web_grown(web, words)
            stands = web is not None
        else:
            asked.append(asked_by(web, words))
            stands = asked[-1] is not None
        if not stands:
            raise NoText("the row can't stand there", number)
    return (web, asked)
