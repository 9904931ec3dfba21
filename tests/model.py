"""Another way to reckon with sums, by Python's own Fraction, for the tests to lay beside the program."""

import itertools
import random
from fractions import Fraction


def pair(number):
    """A Fraction or int as the program's fraction."""
    number = Fraction(number)
    return (number.numerator, number.denominator)


def made(many, table):
    """The sum of a dict of powers to numbers, as point 5 writes it."""
    terms = [(powers, pair(table[powers])) for powers in sorted(table) if table[powers] != 0]
    return (many, tuple(terms))


def table_of(one):
    return {powers: Fraction(top, bottom) for powers, (top, bottom) in one[1]}


def added(one, other):
    table = dict(one)
    for powers, number in other.items():
        table[powers] = table.get(powers, Fraction(0)) + number
    return {powers: number for powers, number in table.items() if number != 0}


def multiplied(one, other):
    table = {}
    for first, number in one.items():
        for second, factor in other.items():
            powers = tuple(p + q for p, q in zip(first, second))
            table[powers] = table.get(powers, Fraction(0)) + number * factor
    return {powers: number for powers, number in table.items() if number != 0}


def put_in(one, others, many):
    total = {}
    for powers, number in one.items():
        product = {(0,) * many: number}
        for power, other in zip(powers, others):
            for _ in range(power):
                product = multiplied(product, other)
        total = added(total, product)
    return total


def worth(one, spot):
    total = Fraction(0)
    for powers, number in one.items():
        for power, place in zip(powers, spot):
            number *= Fraction(*place) ** power
        total += number
    return total


def all_powers(many, most):
    """All powers of so many letters that come to at most so much, rising."""
    found = itertools.product(range(most + 1), repeat=many)
    return sorted(powers for powers in found if sum(powers) <= most)


def first_terms(many, count, most=16, number=1):
    """A sum of so many terms, all with the same number, of degree at most most."""
    chosen = all_powers(many, most)[:count]
    assert len(chosen) == count
    return made(many, {powers: Fraction(number) for powers in chosen})


def dice(seed):
    return random.Random(seed)


def any_number(rolls, long=False):
    """A Fraction of either sign, 0 too."""
    if long:
        return Fraction(rolls.randint(-10**300, 10**300), rolls.randint(1, 10**300))
    return Fraction(rolls.randint(-6, 6), rolls.randint(1, 6))


def any_sum(rolls, many, most, count, long=False):
    """A sum of so many letters, of degree to most, of at most count terms."""
    chosen = rolls.sample(all_powers(many, most), rolls.randint(0, count))
    return made(many, {powers: any_number(rolls, long) for powers in chosen})


def letter_sum(many, letter, power=1):
    """The sum that is one letter with a power."""
    return (many, ((tuple(power if at == letter else 0 for at in range(many)), (1, 1)),))


def constant(many, number):
    return made(many, {(0,) * many: Fraction(number)})
