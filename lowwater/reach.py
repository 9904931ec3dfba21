"""The least worth of a straight sum where straight rims are kept."""

from lowwater.rims import NOUGHT, ONE, bears, is_over, keeps, lone_sum, low_end
from lowwater.sums import plus, put_in, scaled, worth


def reach(one, rims):
    """("none", weights), ("least", number, spot, weights) or ("falls", spot, way); refused with NotStraight."""
    return low_end(one, rims)


def first_power(one, spot, way):
    """The first power's number in what a sum is at the spot and t times the way added."""
    t = (1, (((1,), ONE),))
    course = put_in(one, [plus(lone_sum(1, start), scaled(t, step)) for start, step in zip(spot, way)])
    return dict(course[1]).get((1,), NOUGHT)


def is_way_down(one, rims, spot, way):
    """Whether along the way from a spot no rim falls and the sum does; so the way is not all noughts."""
    if len(way) != one[0] or any([first_power(rim, spot, way)[0] < 0 for rim in rims]):
        return False
    return first_power(one, spot, way)[0] < 0


def is_reach(one, rims, told):
    """Whether what is told of a sum and rims, a tuple as reach tells it, is right."""
    if told[0] == "none":
        return is_over(one, rims, told)
    if told[0] == "least":
        word, number, spot, weights = told
        return keeps(one[0], rims, spot) and worth(one, spot) == number and bears(one, number, rims, weights)
    if told[0] == "falls":
        word, spot, way = told
        return keeps(one[0], rims, spot) and is_way_down(one, rims, spot, way)
    return False
