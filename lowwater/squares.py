"""Weighted squares that are a sum itself; for each sum of the second degree such squares or a spot below 0."""

from lowwater.errors import NotSecond
from lowwater.fractions import added, divided, less, multiplied
from lowwater.sums import degree, plus, put_in, scaled, slope, times, worth

NOUGHT = (0, 1)
ONE = (1, 1)


def common_multiple(one, other):
    """The least number from 1 on that both divide."""
    return one * divided((other, 1), (one, 1))[0]


def all_multiple(numbers):
    """The least number from 1 on that all of these divide."""
    found = 1
    for number in numbers:
        if found % number != 0:
            found = common_multiple(found, number)
    return found


def squared(terms):
    """The square of whole tops with their powers: a dict of tops by powers."""
    table = {}
    for at, (powers, top) in enumerate(terms):
        for behind, (more, over) in enumerate(terms[at:]):
            both = tuple([first + second for first, second in zip(powers, more)])
            share = top * over if behind == 0 else 2 * top * over
            table[both] = table.get(both, 0) + share
    return table


def weighted_square(weight, one):
    """A weight times a sum's square: (bottom, dict of whole tops by powers), not in lowest terms."""
    bottom = all_multiple([under for powers, (over, under) in one[1]])
    terms = [(powers, over * (bottom // under)) for powers, (over, under) in one[1]]
    table = {powers: weight[0] * top for powers, top in squared(terms).items()}
    return (weight[1] * bottom * bottom, table)


def come_to(one, shares):
    """Whether the shares, tops by powers over a bottom each, added up are the sum."""
    # Over one bottom for all of them no fraction need be brought to lowest terms.
    bottom = all_multiple([under for under, table in shares])
    wanted = dict(one[1])
    asked = dict(wanted)
    for under, table in shares:
        asked.update(table)
    for powers in asked:
        total = sum([table.get(powers, 0) * (bottom // under) for under, table in shares])
        top, beneath = wanted.get(powers, NOUGHT)
        if total * beneath != top * bottom:
            return False
    return True


def are_squares(one, some):
    """Whether the squares, a list of (weight, sum), bear out the sum."""
    if any([weight[0] < 0 for weight, root in some]):
        return False
    return come_to(one, [weighted_square(weight, root) for weight, root in some if weight != NOUGHT])


def number_at(one, powers):
    """The fraction that stands by these powers in a sum."""
    return dict(one[1]).get(powers, NOUGHT)


def lone_sum(many, number):
    """The sum of so many letters that is a number alone."""
    return scaled((many, (((0,) * many, ONE),)), number)


def square_powers(many, letter):
    """The powers of a letter's square."""
    return tuple([2 if at == letter else 0 for at in range(many)])


def without(one, letter):
    """The terms of a sum in which a letter doesn't stand."""
    return (one[0], tuple([term for term in one[1] if term[0][letter] == 0]))


def completed(one):
    """A sum of degree to 2 as weighted squares and a rest in which no letter's square is above 0.

    Told are a list of (letter, weight, root) and the rest. In its root the letter stands with 1; in the roots behind
    and in the rest it doesn't stand.
    """
    taken = []
    rest = one
    for letter in range(one[0]):
        weight = number_at(rest, square_powers(one[0], letter))
        if weight[0] > 0:
            tilt = slope(rest, letter)
            taken.append((letter, weight, scaled(tilt, divided((1, 2), weight))))
            other = without(tilt, letter)
            rest = plus(without(rest, letter), scaled(times(other, other), divided((-1, 4), weight)))
    return (taken, rest)


def filled(taken, spot):
    """The spot with the taken letters made such that every root is 0 there."""
    numbers = list(spot)
    for letter, weight, root in taken[::-1]:
        numbers[letter] = NOUGHT
        numbers[letter] = less(NOUGHT, worth(root, tuple(numbers)))
    return tuple(numbers)


def along(one, spot, way):
    """The worths at the spot and t times the way added, as a sum of t."""
    t = (1, (((1,), ONE),))
    return put_in(one, [plus(lone_sum(1, start), scaled(t, step)) for start, step in zip(spot, way)])


def sign(number):
    """-1 of a fraction below 0, else 1, as a fraction."""
    return (-1, 1) if number[0] < 0 else ONE


def downhill(rest):
    """A way along which a completed sum's rest falls from the spot of noughts, or None where it is a number alone."""
    many, terms = rest
    if degree(rest) == 0:
        return None
    # No square is above 0 here, so each square pulls down, and so does each product, whatever squares stand beside it.
    powers, number = max(terms, key=lambda term: sum(term[0]))
    standing = [letter for letter, power in enumerate(powers) if power > 0]
    way = [ONE if power > 0 else NOUGHT for power in powers]
    if max(powers) == 1:
        way[standing[0]] = less(NOUGHT, sign(number))
    return tuple(way)


def far_enough(course):
    """A t at which a sum of t that falls below every number is below 0."""
    start = number_at(course, (0,))
    first = number_at(course, (1,))
    second = number_at(course, (2,))
    steep = second if second != NOUGHT else first
    length = added(ONE, divided((abs(start[0]), start[1]), (abs(steep[0]), steep[1])))
    # With the first power falling too, and a length from 1 on, nothing outweighs the steep one.
    return multiplied(length, less(NOUGHT, sign(first)))


def refuse_higher(one):
    """Refused with NotSecond where the sum's degree is above 2."""
    if degree(one) > 2:
        raise NotSecond(f"a sum of degree {degree(one)}")


def squares(one):
    """("so", squares) by which the sum is borne out, or ("below", spot); refused with NotSecond."""
    refuse_higher(one)
    many = one[0]
    noughts = (NOUGHT,) * many
    taken, rest = completed(one)
    way = downhill(rest)
    if way is not None:
        t = far_enough(along(rest, noughts, way))
        return ("below", filled(taken, tuple([multiplied(t, step) for step in way])))
    number = worth(rest, noughts)
    if number[0] < 0:
        return ("below", filled(taken, noughts))
    some = [(weight, root) for letter, weight, root in taken]
    if number[0] > 0:
        some.append((number, lone_sum(many, ONE)))
    return ("so", some)
