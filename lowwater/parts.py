"""The parts of a sum of one letter by how often they stand in it, and its split into a square and a rest."""

from lowwater.divisors import ONE, greatest_common, lead, quotient
from lowwater.errors import NoQuotient
from lowwater.fractions import divided
from lowwater.sums import degree, plus, scaled, slope, times


def divided_by(one, other):
    """The quotient of two sums of which the other divides the one without a rest."""
    return quotient(one, other)[0]


def less_slope(one, other):
    """A sum less the slope of another one."""
    return plus(one, scaled(slope(other, 0), (-1, 1)))


def parts(one):
    """(number, parts), the parts a list of (part, times); refused with NoQuotient of the sum 0."""
    if one[1] == ():
        raise NoQuotient("the sum 0 has no parts")
    number = lead(one)
    whole = scaled(one, divided(ONE, number))
    shared = greatest_common(whole, slope(whole, 0))
    # The product of the parts that are left, and what tells those of this turn's times from those of more.
    left = divided_by(whole, shared)
    mark = less_slope(divided_by(slope(whole, 0), shared), left)
    found = []
    often = 1
    while degree(left) > 0:
        part = greatest_common(left, mark)
        if degree(part) > 0:
            found.append((part, often))
        left = divided_by(left, part)
        mark = less_slope(divided_by(mark, part), left)
        often += 1
    return (number, found)


def split(one):
    """(root, rest) such that the sum is the root's square times the rest; refused with NoQuotient of the sum 0."""
    number, found = parts(one)
    root = (1, (((0,), ONE),))
    rest = scaled(root, number)
    for part, often in found:
        for turn in range(often // 2):
            root = times(root, part)
        if often & 1 == 1:
            rest = times(rest, part)
    return (root, rest)
