"""Fractions: tuples (top, bottom) in lowest terms, the bottom from 1 on."""

from lowwater.errors import NoQuotient


def is_whole(thing):
    """Whether the thing is an int and no truth."""
    return isinstance(thing, int) and not isinstance(thing, bool)


def greatest_divisor(one, other):
    """The greatest number that divides both; other is from 1 on, so it is too."""
    while other != 0:
        one, other = other, one % other
    return one


def is_fraction(thing):
    """Whether the thing, anything at all, is a fraction."""
    if not isinstance(thing, tuple) or len(thing) != 2:
        return False
    top, bottom = thing
    if not is_whole(top) or not is_whole(bottom) or bottom < 1:
        return False
    return greatest_divisor(top, bottom) == 1


def added(one, other):
    """The sum of two fractions."""
    top, bottom = one
    over, under = other
    # Only what the bottoms share can be left to cancel, so no divisor of long numbers is sought.
    shared = greatest_divisor(bottom, under)
    total = top * (under // shared) + over * (bottom // shared)
    left = greatest_divisor(total, shared)
    return (total // left, (bottom // shared) * (under // left))


def less(one, other):
    """The first fraction less the second."""
    over, under = other
    return added(one, (-over, under))


def multiplied(one, other):
    """The product of two fractions."""
    top, bottom = one
    over, under = other
    # Each fraction is in lowest terms, so only a top and the other one's bottom can share something.
    first = greatest_divisor(top, under)
    second = greatest_divisor(over, bottom)
    return ((top // first) * (over // second), (bottom // second) * (under // first))


def divided(one, other):
    """The first fraction divided by the second; refused with NoQuotient by 0."""
    over, under = other
    if over == 0:
        raise NoQuotient("a fraction is divided by 0")
    if over < 0:
        return multiplied(one, (-under, -over))
    return multiplied(one, (under, over))


def beside(one, other):
    """-1, 0 or 1 as the first fraction is less than the second, like it, or greater."""
    first = one[0] * other[1]
    second = other[0] * one[1]
    if first < second:
        return -1
    if first > second:
        return 1
    return 0
