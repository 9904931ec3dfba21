"""Rows: each has a sum, of rims, numbers, squares and earlier rows, nowhere below 0 where the rims are not."""

from lowwater.errors import NoRow, TooGreat
from lowwater.fractions import is_fraction
from lowwater.sums import is_sum, plus, scaled, times

ONE = (1, 1)
# The least number of more than three thousand figures.
TOO_LONG = (10 ** 60) ** 50


def is_place(thing, length):
    """Whether the thing, anything at all, is a place in a list of this length."""
    return isinstance(thing, int) and not isinstance(thing, bool) and 0 <= thing < length


def is_long(one):
    """Whether some fraction of a sum has more than three thousand figures above or below."""
    return any([abs(top) >= TOO_LONG or bottom >= TOO_LONG for powers, (top, bottom) in one[1]])


def rim_sum(many, rims, found, rest):
    """The sum of a rim's row, or None where it is none."""
    if len(rest) != 1 or not is_place(rest[0], len(rims)):
        return None
    return rims[rest[0]]


def number_sum(many, rims, found, rest):
    """The sum of a number's row, or None where it is none."""
    if len(rest) != 1 or not is_fraction(rest[0]) or rest[0][0] < 0:
        return None
    return scaled((many, (((0,) * many, ONE),)), rest[0])


def square_sum(many, rims, found, rest):
    """The sum of a square's row, or None where it is none."""
    if len(rest) != 1 or not is_sum(rest[0]) or rest[0][0] != many:
        return None
    return times(rest[0], rest[0])


def are_earlier(found, rest):
    """Whether the rest of a row are the numbers of two earlier rows."""
    return len(rest) == 2 and all([is_place(thing, len(found)) for thing in rest])


def plus_sum(many, rims, found, rest):
    """The sum of a row that adds two earlier ones, or None where it is none."""
    if not are_earlier(found, rest):
        return None
    return plus(found[rest[0]], found[rest[1]])


def times_sum(many, rims, found, rest):
    """The sum of a row that multiplies two earlier ones, or None where it is none."""
    if not are_earlier(found, rest):
        return None
    return times(found[rest[0]], found[rest[1]])


KINDS = {"rim": rim_sum, "number": number_sum, "square": square_sum, "plus": plus_sum, "times": times_sum}


def one_sum(many, rims, found, row):
    """The sum of a row, anything at all, behind those found so far; None where it is none, refused with TooGreat."""
    if not isinstance(row, tuple) or row == () or not isinstance(row[0], str) or row[0] not in KINDS:
        return None
    kind = KINDS[row[0]]
    return kind(many, rims, found, row[1:])


def row_sums(many, rims, rows):
    """The rows' sums, a list; refused with NoRow by the number of the first row that is none or comes to too much."""
    found = []
    for at, row in enumerate(rows):
        try:
            one = one_sum(many, rims, found, row)
        except TooGreat:
            raise NoRow(at)
        if one is None or is_long(one):
            raise NoRow(at)
        found.append(one)
    return found
