"""Determinants, and the tables and worths of lists of rings."""

from ringbase.errors import NoBase
from ringbase.evens import chords
from ringbase.rings import walked
from ringbase.webs import rank


def row_to_lead(rows, step):
    """The first row from a step on that is not 0 in the step's column, or None."""
    for place in range(step, len(rows)):
        if rows[place][step] != 0:
            return place
    return None


def row_cleared(row, lead_row, step, divisor):
    # Each number that comes of this is itself a determinant of a part of the table, so nothing is lost by dividing.
    return [(lead_row[step] * number - row[step] * lead) // divisor for number, lead in zip(row, lead_row)]


def determinant(table):
    """The determinant of a list of as many lists of so many whole numbers."""
    rows = list(table)
    sign = 1
    divisor = 1
    for step in range(len(rows)):
        place = row_to_lead(rows, step)
        if place is None:
            return 0
        if place != step:
            lead_row = rows[place]
            rows[place] = rows[step]
            rows[step] = lead_row
            sign = -sign
        for below in range(step + 1, len(rows)):
            rows[below] = row_cleared(rows[below], rows[step], step, divisor)
        divisor = rows[step][step]
    return sign * divisor


def ways_of(web, ring):
    """For each tie the way by which a ring goes it, 0 where the ring has it not."""
    ways = [0] * len(web[1])
    for tie, way in walked(web, ring):
        ways[tie] = way
    return ways


def product_of(one, other):
    return sum([here * there for here, there in zip(one, other)])


def ring_table(web, rings):
    """For each two rings the sum, over the ties of both, of the product of their ways."""
    ways = [ways_of(web, ring) for ring in rings]
    table = []
    for one in ways:
        table.append([product_of(one, other) for other in ways])
    return table


def ring_worth(web, rings):
    """The amount of the determinant of the ways by which as many rings as the rank go the chords."""
    if len(rings) != rank(web):
        raise NoBase("there are not as many rings as the rank")
    crossed = chords(web)
    table = []
    for ring in rings:
        ways = ways_of(web, ring)
        table.append([ways[chord] for chord in crossed])
    return abs(determinant(table))
