"""Sums of products of one to four letters: tuples (many, terms), terms of (powers, fraction)."""

from lowwater.errors import TooGreat
from lowwater.fractions import added, divided, is_fraction, multiplied

MOST_LETTERS = 4
MOST_DEGREE = 16
MOST_TERMS = 500
NOUGHT = (0, 1)
# Above every power on the way, a product's too, so that packed powers add up letter by letter.
PACK = 256
# Beyond this a bottom common to many fractions costs more than it saves.
SHORT_BITS = 1500


def is_whole_from(thing, low):
    """Whether the thing is a whole number from low on."""
    return isinstance(thing, int) and not isinstance(thing, bool) and thing >= low


def are_powers(thing, many):
    """Whether the thing may stand as a term's powers in a sum of so many letters."""
    if not isinstance(thing, tuple) or len(thing) != many:
        return False
    if not all([is_whole_from(power, 0) for power in thing]):
        return False
    return sum(thing) <= MOST_DEGREE


def is_term(thing, many):
    """Whether the thing may stand as a term of a sum of so many letters."""
    if not isinstance(thing, tuple) or len(thing) != 2:
        return False
    powers, fraction = thing
    return are_powers(powers, many) and is_fraction(fraction) and fraction != NOUGHT


def is_sum(thing):
    """Whether the thing, anything at all, is a sum."""
    if not isinstance(thing, tuple) or len(thing) != 2:
        return False
    many, terms = thing
    if not is_whole_from(many, 1) or many > MOST_LETTERS:
        return False
    if not isinstance(terms, tuple) or len(terms) > MOST_TERMS:
        return False
    if not all([is_term(term, many) for term in terms]):
        return False
    return all([before[0] < behind[0] for before, behind in zip(terms, terms[1:])])


def degree(one):
    """The greatest of what a term's powers come to together; 0 of the sum 0."""
    return max([sum(powers) for powers, fraction in one[1]], default=0)


def packed(powers):
    """The powers as one number; packed powers rise as the powers do."""
    key = 0
    for power in powers:
        key = key * PACK + power
    return key


def unpacked(key, many):
    """The powers of so many letters that were packed."""
    powers = []
    for letter in range(many):
        powers.append(key % PACK)
        key = key // PACK
    return tuple(powers[::-1])


def table_of(one):
    """A sum's fractions by their packed powers: a dict that the caller owns."""
    return {packed(powers): fraction for powers, fraction in one[1]}


def sum_of(many, table):
    """The sum with these fractions by packed powers; refused with TooGreat where it is none."""
    keys = [key for key in sorted(table) if table[key] != NOUGHT]
    if len(keys) > MOST_TERMS:
        raise TooGreat(f"a sum of {len(keys)} terms")
    one = (many, tuple([(unpacked(key, many), table[key]) for key in keys]))
    if degree(one) > MOST_DEGREE:
        raise TooGreat(f"a sum of degree {degree(one)}")
    return one


def tables_added(one, other):
    """The table of the sum of two tables."""
    table = dict(one)
    for key, fraction in other.items():
        table[key] = added(table.get(key, NOUGHT), fraction)
    return table


def levelled(table):
    """The table's fractions over one bottom, not in lowest terms, where a short one serves."""
    common = 1
    for top, bottom in table.values():
        common = common * divided((bottom, 1), (common, 1))[0]
        if common.bit_length() > SHORT_BITS:
            return table
    return {key: (top * (common // bottom), common) for key, (top, bottom) in table.items()}


def heap_total(heap):
    """What a heap of tops by their bottoms comes to."""
    total = NOUGHT
    for bottom, top in heap.items():
        total = added(total, divided((top, 1), (bottom, 1)))
    return total


def tables_multiplied(one, other):
    """The table of the product of two tables."""
    # Products of like bottoms are gathered first, so that lowest terms are sought once for many.
    first = levelled(one)
    second = levelled(other)
    heaps = {}
    for key, (top, bottom) in first.items():
        for more, (over, under) in second.items():
            heap = heaps.setdefault(key + more, {})
            product = bottom * under
            heap[product] = heap.get(product, 0) + top * over
    return {key: heap_total(heap) for key, heap in heaps.items()}


def plus(one, other):
    """The sum of two sums of as many letters; refused with TooGreat."""
    return sum_of(one[0], tables_added(table_of(one), table_of(other)))


def times(one, other):
    """The product of two sums of as many letters; refused with TooGreat."""
    # A product's greatest powers never cancel out, so this can be told without multiplying.
    reached = degree(one) + degree(other)
    if reached > MOST_DEGREE:
        raise TooGreat(f"a product of degree {reached}")
    return sum_of(one[0], tables_multiplied(table_of(one), table_of(other)))


def scaled(one, number):
    """The product of a sum with a fraction."""
    table = {key: multiplied(fraction, number) for key, fraction in table_of(one).items()}
    return sum_of(one[0], table)


def slope(one, letter):
    """The slope of a sum by a letter, its number from 0."""
    many, terms = one
    table = {}
    for powers, fraction in terms:
        power = powers[letter]
        if power > 0:
            lower = powers[:letter] + (power - 1,) + powers[letter + 1:]
            table[packed(lower)] = multiplied(fraction, (power, 1))
    return sum_of(many, table)


def chain(base, most):
    """The list of the base's powers, from 0 to the greatest asked for."""
    powers = [1]
    for turn in range(most):
        powers.append(powers[-1] * base)
    return powers


def greatest_powers(one):
    """For each letter its greatest power in the sum, a list."""
    many, terms = one
    return [max([powers[letter] for powers, fraction in terms], default=0) for letter in range(many)]


def worth(one, spot):
    """The worth of a sum at a spot, a tuple of as many fractions."""
    # Everything is taken over the spot's bottoms to their greatest powers, which go away at the
    # end one by one: so no divisor of two long numbers is sought.
    most = greatest_powers(one)
    tops = [chain(number[0], power) for number, power in zip(spot, most)]
    bottoms = [chain(number[1], power) for number, power in zip(spot, most)]
    total = NOUGHT
    for powers, fraction in one[1]:
        weight = 1
        for letter, power in enumerate(powers):
            weight = weight * tops[letter][power] * bottoms[letter][most[letter] - power]
        total = added(total, multiplied(fraction, (weight, 1)))
    for number, power in zip(spot, most):
        for turn in range(power):
            total = multiplied(total, (1, number[1]))
    return total


def parted(terms, letter):
    """The terms by their power of a letter: a dict of lists."""
    parts = {}
    for term in terms:
        parts.setdefault(term[0][letter], []).append(term)
    return parts


def table_put_in(terms, tables, letter):
    """What terms alike in the letters ahead come to, the tables put in for the letters from here on."""
    if letter == len(tables):
        return {0: terms[0][1]}
    parts = parted(terms, letter)
    table = {}
    for power in reversed(range(max(parts, default=0) + 1)):
        table = tables_multiplied(table, tables[letter])
        if power in parts:
            table = tables_added(table, table_put_in(parts[power], tables, letter + 1))
    return table


def put_in(one, others):
    """What comes where a list of as many sums is put in for the letters; refused with TooGreat."""
    degrees = [degree(other) for other in others]
    for powers, fraction in one[1]:
        reached = sum([power * most for power, most in zip(powers, degrees)])
        if reached > MOST_DEGREE:
            raise TooGreat(f"a term that comes to degree {reached}")
    tables = [table_of(other) for other in others]
    return sum_of(others[0][0], table_put_in(one[1], tables, 0))
