"""Fractions: tuples (top, bottom) in lowest terms, the bottom from 1 on."""

from lowwater.errors import NoQuotient

# From here on several steps of a division chain are taken at once, by so many leading bits.
LONG_BITS = 8000
LEADING_BITS = 120


def is_whole(thing):
    """Whether the thing is an int and no truth."""
    return isinstance(thing, int) and not isinstance(thing, bool)


def chain_steps(high, low):
    """Steps of a division chain that two numbers' leading bits settle: (p, q, s, t) for p, q times both and s, t."""
    p, q, s, t = 1, 0, 0, 1
    # The bits cut off can't change a quotient that comes out alike at both ends of what they allow.
    while low + s != 0 and low + t != 0 and (high + p) // (low + s) == (high + q) // (low + t):
        times = (high + p) // (low + s)
        p, q, s, t = s, t, p - times * s, q - times * t
        high, low = low, high - times * low
    return (p, q, s, t)


def chain_on(one, other):
    """A pair further down the division chain of two numbers, the other one from 1 on."""
    if one < other:
        return (other, one % other)
    cut = one.bit_length() - LEADING_BITS
    p, q, s, t = chain_steps(one >> cut, other >> cut)
    if q == 0:
        return (other, one % other)
    return (p * one + q * other, s * one + t * other)


def greatest_divisor(one, other):
    """The greatest number that divides both; other is from 1 on, so it is too."""
    while other != 0:
        if other.bit_length() > LONG_BITS:
            one, other = chain_on(one, other)
        else:
            one, other = other, one % other
    return one


def is_fraction(thing):
    """Whether the thing, anything at all, is a fraction."""
    if not isinstance(thing, tuple) or len(thing) != 2:
        return False
    top, bottom = thing
    if not is_whole(top) or not is_whole(bottom) or bottom < 1:
        return False
    return greatest_divisor(top, bottom) == 1


def added(one, other):
    """The sum of two fractions."""
    top, bottom = one
    over, under = other
    # Only what the bottoms share can be left to cancel, so no divisor of long numbers is sought.
    shared = greatest_divisor(bottom, under)
    total = top * (under // shared) + over * (bottom // shared)
    left = greatest_divisor(total, shared)
    return (total // left, (bottom // shared) * (under // left))


def less(one, other):
    """The first fraction less the second."""
    over, under = other
    return added(one, (-over, under))


def multiplied(one, other):
    """The product of two fractions."""
    top, bottom = one
    over, under = other
    # Each fraction is in lowest terms, so only a top and the other one's bottom can share something.
    first = greatest_divisor(top, under)
    second = greatest_divisor(over, bottom)
    return ((top // first) * (over // second), (bottom // second) * (under // first))


def divided(one, other):
    """The first fraction divided by the second; refused with NoQuotient by 0."""
    over, under = other
    if over == 0:
        raise NoQuotient("a fraction is divided by 0")
    if over < 0:
        return multiplied(one, (-under, -over))
    return multiplied(one, (under, over))


def beside(one, other):
    """-1, 0 or 1 as the first fraction is less than the second, like it, or greater."""
    first = one[0] * other[1]
    second = other[0] * one[1]
    if first < second:
        return -1
    if first > second:
        return 1
    return 0
