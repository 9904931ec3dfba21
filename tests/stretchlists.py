"""Sums of one letter with stretches, and what points 16 to 19 ask, reckoned by the tests themselves."""

import itertools
from fractions import Fraction
from math import comb

import model

TINY = Fraction(1, 10**25)
STRETCHES = (
    (0, 1), (-1, 1), (Fraction(1, 3), Fraction(7, 5)), (-4, Fraction(-1, 9)), (0, None), (Fraction(-7, 2), None), (None, 0),
    (None, Fraction(5, 6)), (None, None),
)


def sum_of(*numbers):
    """The sum of one letter with these numbers from the power 0 on."""
    return model.made(1, {(power,): Fraction(number) for power, number in enumerate(numbers)})


def product(*some):
    table = {(0,): Fraction(1)}
    for one in some:
        table = model.multiplied(table, model.table_of(one))
    return model.made(1, table)


def less_number(one, number):
    return model.total(1, one, model.constant(1, -number))


def degree(one):
    return max((powers[0] for powers, number in one[1]), default=0)


def end(number):
    """An end of a stretch as it is handed in."""
    return None if number is None else model.pair(number)


def ends_of(stretch):
    return tuple(end(number) for number in stretch)


def power(table, times):
    result = {(0,): Fraction(1)}
    for _ in range(times):
        result = model.multiplied(result, table)
    return result


def binomials(most, low, high):
    """What each number of a sum of degree most stands for in a stretch, by point 16, and what the sum is multiplied by."""
    if high is None:
        base = {(0,): -low, (1,): Fraction(1)}
        return [power(base, at) for at in range(most + 1)], 1
    if low is None:
        base = {(0,): high, (1,): Fraction(-1)}
        return [power(base, at) for at in range(most + 1)], 1
    lower, upper = {(0,): -low, (1,): Fraction(1)}, {(0,): high, (1,): Fraction(-1)}
    found = []
    for at in range(most + 1):
        table = model.multiplied(power(lower, at), power(upper, most - at))
        found.append({powers: comb(most, at) * number for powers, number in table.items()})
    return found, (high - low) ** most


def come_to(one, low, high, numbers):
    """Whether these are the numbers of a sum in a stretch, by point 16's own equation multiplied out."""
    if len(numbers) != degree(one) + 1:
        return False
    low, high = (None if place is None else Fraction(*place) for place in (low, high))
    tables, factor = binomials(degree(one), low, high)
    total = model.weighed(1, [(Fraction(*number), table) for number, table in zip(numbers, tables)])
    return model.made(1, total) == model.made(1, {powers: number * factor for powers, number in model.table_of(one).items()})


def is_stretch(low, high):
    if low is None or high is None:
        return not (low is None and high is None)
    return Fraction(*low) < Fraction(*high)


def right_pieces(one, low, high, some):
    """Whether a list is right by point 17."""
    if not some or some[0][0] != low or some[-1][1] != high:
        return False
    for ahead, behind in itertools.pairwise(some):
        if ahead[1] is None or ahead[1] != behind[0]:
            return False
    if not all(is_stretch(begin, finish) for begin, finish, numbers in some):
        return False
    if any(number[0] < 0 for begin, finish, numbers in some for number in numbers):
        return False
    return all(come_to(one, begin, finish, numbers) for begin, finish, numbers in some)


def is_within(low, high, spot):
    if len(spot) != 1:
        return False
    place = Fraction(*spot[0])
    return (low is None or Fraction(*low) <= place) and (high is None or place <= Fraction(*high))


def worth(one, spot):
    return model.worth(model.table_of(one), spot)


def numbers_in(one, low, high):
    """The numbers of a sum in a stretch, by another way than the program's: each of its powers by itself."""
    most = degree(one)
    low, high = (None if place is None else Fraction(*place) for place in (low, high))
    found = [Fraction(0)] * (most + 1)
    for (times,), number in model.table_of(one).items():
        for at in range(most + 1):
            if high is None:
                found[at] += number * (comb(times, at) * low ** (times - at) if at <= times else 0)
            elif low is None:
                found[at] += number * ((-1) ** at * comb(times, at) * high ** (times - at) if at <= times else 0)
            else:
                # Of a power the number is the mean of all its products of as many ends, so many of them the high one.
                ways = [comb(at, taken) * comb(most - at, times - taken) * high ** taken * low ** (times - taken)
                        for taken in range(max(0, times - most + at), min(at, times) + 1)]
                found[at] += number * sum(ways) / comb(most, times)
    return [model.pair(number) for number in found]


def cut_pieces(one, *places):
    """The pieces of a sum between these places, None at the ends where there is none."""
    ends = [end(place) for place in places]
    return [(low, high, numbers_in(one, low, high)) for low, high in zip(ends, ends[1:])]


def any_of_degree(rolls, most, long=False):
    numbers = [model.any_number(rolls, long) if rolls.random() < 0.8 else Fraction(0) for power in range(most)]
    return sum_of(*numbers, model.any_number(rolls, long) or Fraction(-1, 3))


def any_stretch(rolls, long=False):
    first, second = model.any_number(rolls, long), model.any_number(rolls, long)
    if first == second:
        second += 1
    low, high = sorted((first, second))
    return rolls.choice(((low, high), (low, high), (low, None), (None, high)))
