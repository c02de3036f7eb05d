"""Pages answered by a text, a row for each row that asks."""

from ringbase.bases import least_base, lengths
from ringbase.cuts import side_of
from ringbase.errors import NotEven
from ringbase.forests import forest_many
from ringbase.heights import heights_of
from ringbase.oddrings import least_odd
from ringbase.rings import parted
from ringbase.texts import read_page, row_text
from ringbase.webs import set_of, ties_in


def ring_text(ring):
    """The numbers of a ring's ties with a stroke between."""
    return "-".join([str(tie) for tie in ties_in(ring)])


def lengths_row(web, numbers):
    return row_text("lengths", lengths(web))


def base_row(web, numbers):
    return row_text("base", [ring_text(ring) for ring, marks, worths in least_base(web)])


def even_row(web, numbers):
    try:
        rings = parted(web, set_of(web, numbers))
    except NotEven as odd:
        return row_text("even no", [odd.point])
    return row_text("even yes", [ring_text(ring) for ring in rings])


def cut_row(web, numbers):
    answer = side_of(web, set_of(web, numbers))
    if answer[0] == "side":
        return row_text("cut yes", answer[1])
    return row_text("cut no", [ring_text(answer[1])])


def odd_row(web, numbers):
    answer = least_odd(web, set_of(web, numbers))
    if answer[0] == "side":
        return "odd none"
    return row_text("odd", [ring_text(answer[1])])


def heights_row(web, numbers):
    answer = heights_of(web, list(numbers[1:]), numbers[0])
    if answer[0] == "heights":
        return row_text("heights yes", answer[1])
    return row_text("heights no", [ring_text(answer[1])])


def forests_row(web, numbers):
    return row_text("forests", [forest_many(web)])


ROWS = {
    "lengths": lengths_row,
    "base": base_row,
    "even": even_row,
    "cut": cut_row,
    "odd": odd_row,
    "heights": heights_row,
    "forests": forests_row,
}


def answered(text):
    """The text that answers a page."""
    page = read_page(text)
    # A page can ask the same hundreds of times; what is found once is told again.
    found = {}
    rows = []
    for asked in page[1]:
        if asked not in found:
            found[asked] = ROWS[asked[0]](page[0], asked[1])
        rows.append(found[asked])
    return "\n".join(rows)
