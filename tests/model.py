"""Another way to reckon with sums, by Python's own Fraction, for the tests to lay beside the program."""

import itertools
import math
import random
from fractions import Fraction


def pair(number):
    """A Fraction or int as the program's fraction."""
    number = Fraction(number)
    return (number.numerator, number.denominator)


def made(many, table):
    """The sum of a dict of powers to numbers, as point 5 writes it."""
    terms = [(powers, pair(table[powers])) for powers in sorted(table) if table[powers] != 0]
    return (many, tuple(terms))


def table_of(one):
    return {powers: Fraction(top, bottom) for powers, (top, bottom) in one[1]}


def added(one, other):
    table = dict(one)
    for powers, number in other.items():
        table[powers] = table.get(powers, Fraction(0)) + number
    return {powers: number for powers, number in table.items() if number != 0}


def multiplied(one, other):
    table = {}
    for first, number in one.items():
        for second, factor in other.items():
            powers = tuple(p + q for p, q in zip(first, second))
            table[powers] = table.get(powers, Fraction(0)) + number * factor
    return {powers: number for powers, number in table.items() if number != 0}


def put_in(one, others, many):
    total = {}
    for powers, number in one.items():
        product = {(0,) * many: number}
        for power, other in zip(powers, others):
            for _ in range(power):
                product = multiplied(product, other)
        total = added(total, product)
    return total


def worth(one, spot):
    total = Fraction(0)
    for powers, number in one.items():
        for power, place in zip(powers, spot):
            number *= Fraction(*place) ** power
        total += number
    return total


def all_powers(many, most):
    """All powers of so many letters that come to at most so much, rising."""
    found = itertools.product(range(most + 1), repeat=many)
    return sorted(powers for powers in found if sum(powers) <= most)


def first_terms(many, count, most=16, number=1):
    """A sum of so many terms, all with the same number, of degree at most most."""
    chosen = all_powers(many, most)[:count]
    assert len(chosen) == count
    return made(many, {powers: Fraction(number) for powers in chosen})


def dice(seed):
    return random.Random(seed)


def any_number(rolls, long=False):
    """A Fraction of either sign, 0 too."""
    if long:
        return Fraction(rolls.randint(-10**300, 10**300), rolls.randint(1, 10**300))
    return Fraction(rolls.randint(-6, 6), rolls.randint(1, 6))


def any_sum(rolls, many, most, count, long=False):
    """A sum of so many letters, of degree to most, of at most count terms."""
    chosen = rolls.sample(all_powers(many, most), rolls.randint(0, count))
    return made(many, {powers: any_number(rolls, long) for powers in chosen})


def letter_sum(many, letter, power=1):
    """The sum that is one letter with a power."""
    return (many, ((tuple(power if at == letter else 0 for at in range(many)), (1, 1)),))


def constant(many, number):
    return made(many, {(0,) * many: Fraction(number)})


def is_pair(thing):
    """Whether a thing is a fraction as point 4 tells it, by Python's own greatest divisor."""
    if type(thing) is not tuple or [type(part) for part in thing] != [int, int]:
        return False
    return thing[1] >= 1 and math.gcd(*thing) == 1


def is_made(thing, many):
    """Whether a thing is a sum of so many letters as point 5 tells it."""
    if type(thing) is not tuple or len(thing) != 2 or type(thing[1]) is not tuple or thing[0] != many:
        return False
    powers = [term[0] for term in thing[1]]
    if any(type(row) is not tuple or len(row) != many or min(row) < 0 or sum(row) > 16 for row in powers):
        return False
    if not all(is_pair(term[1]) and term[1][0] != 0 for term in thing[1]):
        return False
    return len(powers) <= 500 and all(one < other for one, other in zip(powers, powers[1:]))


def weighed(many, pairs):
    """The table of the sums, each times its number, added up."""
    total = {}
    for number, table in pairs:
        total = added(total, {powers: number * factor for powers, factor in table.items() if number != 0})
    return total


def squares_total(many, some):
    """The table of weighted squares multiplied out."""
    tables = [(Fraction(*weight), table_of(root)) for weight, root in some]
    return weighed(many, [(weight, multiplied(table, table)) for weight, table in tables])


def moved(spot, way, t=1):
    """The spot and t times the way added."""
    return tuple(pair(Fraction(*start) + t * Fraction(*step)) for start, step in zip(spot, way))


def second_and_first(table, spot, way):
    """The second and the first power's number in what a sum of degree to 2 is along the way."""
    start, ahead, behind = (worth(table, moved(spot, way, t)) for t in (0, 1, -1))
    return (ahead + behind) / 2 - start, (ahead - behind) / 2


def straight(many, *numbers):
    """The straight sum of these numbers of the letters and, at the end, the lone one."""
    table = {tuple(int(at == letter) for at in range(many)): Fraction(number) for letter, number in enumerate(numbers)}
    return made(many, table)


def square_of(one, weight=1):
    """The sum that is a weight times another one's square."""
    table = multiplied(table_of(one), table_of(one))
    return made(one[0], {powers: number * weight for powers, number in table.items()})


def total(many, *some):
    """Some sums added up."""
    return made(many, weighed(many, [(Fraction(1), table_of(one)) for one in some]))
