"""The small judge of least bases, and the parts of even sets by a base that it takes."""

from ringbase.bases import is_base
from ringbase.cuts import bears_oddly
from ringbase.evens import check_even
from ringbase.oddrings import ring_stands
from ringbase.rings import by_length
from ringbase.webs import is_set


def marks_fit(web, rings, marks):
    """Whether any numbers are marks for a base of these rings."""
    if not all([is_set(web, own) for own in marks]):
        return False
    for place, ring in enumerate(rings):
        if [k for k, own in enumerate(marks) if bears_oddly(ring, own)] != [place]:
            return False
    return True


def base_judged(web, base):
    """Whether a tuple of triples (ring, marks, worths), of whatever numbers, is a told base."""
    rings = [ring for ring, marks, worths in base]
    if not is_base(web, rings) or rings != by_length(web, rings):
        return False
    if not marks_fit(web, rings, [marks for ring, marks, worths in base]):
        return False
    return all([ring_stands(web, marks, ring, worths) for ring, marks, worths in base])


def parts_by(web, base, tie_set):
    """The ascending list of the places, in a told base, of the rings whose sum an even set is."""
    check_even(web, tie_set)
    return [place for place, told in enumerate(base) if bears_oddly(tie_set, told[1])]
