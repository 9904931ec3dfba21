"""Sums of one letter: quotient and rest, and the greatest sum by which two can be divided without a rest."""

from lowwater.errors import NoQuotient
from lowwater.fractions import divided, less, multiplied
from lowwater.sums import degree, scaled

NOUGHT = (0, 1)
ONE = (1, 1)


def numbers_of(one):
    """The fractions of a sum of one letter from the power 0 to the greatest; of the sum 0 a nought."""
    table = dict(one[1])
    return [table.get((power,), NOUGHT) for power in range(degree(one) + 1)]


def sum_from(numbers):
    """The sum of one letter that has these fractions from the power 0 on."""
    return (1, tuple([((power,), number) for power, number in enumerate(numbers) if number != NOUGHT]))


def lead(one):
    """The fraction of the greatest power of a sum that is not 0."""
    return one[1][-1][1]


def quotient(one, other):
    """(quotient, rest) of two sums of one letter; refused with NoQuotient by the sum 0."""
    if other[1] == ():
        raise NoQuotient("a sum is divided by the sum 0")
    rest = numbers_of(one)
    divisor = numbers_of(other)
    found = [NOUGHT] * max(0, len(rest) - len(divisor) + 1)
    for at in reversed(range(len(found))):
        factor = divided(rest[-1], divisor[-1])
        found[at] = factor
        for place, number in enumerate(divisor):
            rest[at + place] = less(rest[at + place], multiplied(factor, number))
        rest.pop()
    return (sum_from(found), sum_from(rest))


def whole_numbers(one):
    """A sum's whole numbers from the power 0 on that nothing divides and that are the sum but for a factor."""
    if one[1] == ():
        return []
    # With the greatest power's fraction made 1, the least bottom common to all leaves nothing that divides all.
    numbers = numbers_of(scaled(one, divided(ONE, lead(one))))
    bottom = 1
    for over, under in numbers:
        bottom = bottom * divided((under, 1), (bottom, 1))[0]
    return [over * (bottom // under) for over, under in numbers]


def power_of(base, times):
    """A whole number multiplied with itself so often."""
    product = 1
    for turn in range(times):
        product = product * base
    return product


def trimmed(numbers):
    """The numbers without the noughts at their end."""
    length = len(numbers)
    while length > 0 and numbers[length - 1] == 0:
        length -= 1
    return numbers[:length]


def crossed(one, other, factor, share, shift):
    """The one's numbers times the factor less the other's, so many powers higher, times the share."""
    moved = [0] * shift + [share * number for number in other]
    length = max(len(one), len(moved))
    first = [factor * number for number in one] + [0] * (length - len(one))
    return [high - low for high, low in zip(first, moved + [0] * (length - len(moved)))]


def cleared(upper, lower):
    """Upper rows with lower ones taken off until the first upper row has fewer numbers than the first lower one."""
    top = lower[0][-1]
    for shift in reversed(range(len(upper[0]) - len(lower[0]) + 1)):
        share = upper[0][-1]
        upper = [crossed(high, low, top, share, shift) for high, low in zip(upper, lower)]
        upper[0].pop()
    return upper


def last_rest(upper, lower):
    """The rows at the end of the chain of rests that two lists of rows of whole numbers begin.

    The first row of each list is divided, the first upper one being no shorter; the rows behind it are carried along.
    """
    before = 1
    height = 1
    while len(lower[0]) > 1:
        fall = len(upper[0]) - len(lower[0])
        # By this the chain's determinants divide all rows without a rest, and so they don't grow beyond need.
        divisor = before * power_of(height, fall)
        rest = [[number // divisor for number in row] for row in cleared(upper, lower)]
        rest[0] = trimmed(rest[0])
        upper, lower = lower, rest
        before = upper[0][-1]
        if fall > 0:
            height = power_of(before, fall) // power_of(height, fall - 1)
    # A lone number divides everything, so the chain needn't be followed beyond it.
    return upper if lower[0] == [] else lower


def over_bottom(numbers, bottom):
    """The sum of one letter that has these whole numbers, each divided by the bottom."""
    return sum_from([divided((number, 1), (bottom, 1)) for number in numbers])


def greatest_common(one, other):
    """What common tells first, of a sum that is not 0 and another one of no greater degree."""
    found = last_rest([whole_numbers(one)], [whole_numbers(other)])[0]
    return over_bottom(found, found[-1])


def factor_of(one, numbers, row, bottom):
    """The factor for a sum, where its whole numbers' factor is a row of whole numbers over the bottom."""
    if one[1] == ():
        return one
    over, under = multiplied(divided((numbers[-1], 1), lead(one)), divided(ONE, (bottom, 1)))
    return over_bottom([number * over for number in row], under)


def common(one, other):
    """(common, one's factor, the other's) of two sums of one letter; refused with NoQuotient where both are 0."""
    first, second = whole_numbers(one), whole_numbers(other)
    if first == [] and second == []:
        raise NoQuotient("both sums are 0")
    if len(first) < len(second):
        found, factor, share = common(other, one)
        return (found, share, factor)
    rest, row, behind = last_rest([first, [1], []], [second, [], [1]])
    found = over_bottom(rest, rest[-1])
    return (found, factor_of(one, first, row, rest[-1]), factor_of(other, second, behind, rest[-1]))
