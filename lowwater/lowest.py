"""The least worth of a sum of the second degree, or a way along which it falls below every number."""

from lowwater.fractions import less
from lowwater.squares import NOUGHT, along, are_squares, completed, downhill, filled, lone_sum, number_at, refuse_higher
from lowwater.sums import plus, worth


def lowest(one):
    """("least", number, spot, squares) or ("falls", spot, way); refused with NotSecond."""
    refuse_higher(one)
    noughts = (NOUGHT,) * one[0]
    taken, rest = completed(one)
    spot = filled(taken, noughts)
    way = downhill(rest)
    if way is None:
        return ("least", worth(rest, noughts), spot, [(weight, root) for letter, weight, root in taken])
    # What is filled in keeps every root at 0, so along this line the sum goes as its rest does.
    end = filled(taken, way)
    return ("falls", spot, tuple([less(last, first) for last, first in zip(end, spot)]))


def lowered(one, number):
    """A sum less a number."""
    return plus(one, lone_sum(one[0], less(NOUGHT, number)))


def is_least(one, number, spot, some):
    """Whether the sum has the number at the spot, and the squares bear out the sum less it."""
    return len(spot) == one[0] and worth(one, spot) == number and are_squares(lowered(one, number), some)


def falls(one, spot, way):
    """Whether the sum falls below every number from the spot along the way."""
    if len(spot) != one[0] or len(way) != one[0]:
        return False
    # Along a way of noughts the worths are a number alone, so it falls by neither power.
    course = along(one, spot, way)
    first = number_at(course, (1,))
    second = number_at(course, (2,))
    return second[0] < 0 or (second == NOUGHT and first[0] < 0)


def is_lowest(one, told):
    """Whether what is told of a sum, a tuple as lowest tells it, is right."""
    if told[0] == "least":
        word, number, spot, some = told
        return is_least(one, number, spot, some)
    if told[0] == "falls":
        word, spot, way = told
        return falls(one, spot, way)
    return False
