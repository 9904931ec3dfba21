"""Sums of degree to 2 of one to four letters, for the tests of squares and of the least worth."""

from fractions import Fraction

import model

TINY = Fraction(1, 10**12)


def lone(many):
    """Numbers alone, the sum 0 too."""
    numbers = (0, 1, -1, Fraction(1, 3), Fraction(-1, 3), 10**299, -10**299, Fraction(1, 10**299), Fraction(-1, 10**299))
    return [model.constant(many, number) for number in numbers]


def straight(many, rolls):
    """Straight sums, lone letters among them."""
    found = [model.letter_sum(many, letter) for letter in range(many)]
    found += [model.straight(many, *[-2] * many, 10**9), model.straight(many, *[0] * (many - 1), Fraction(-1, 7), 1)]
    for turn in range(4):
        found.append(model.straight(many, *[model.any_number(rolls) for letter in range(many + 1)]))
    return found


def any_straight(many, rolls, long=False):
    return model.straight(many, *[model.any_number(rolls, long) for letter in range(many + 1)])


def any_squares(many, rolls, count, long=False):
    """Some squares of straight sums, added up."""
    weights = [abs(model.any_number(rolls, long)) for turn in range(count)]
    return model.total(many, *[model.square_of(any_straight(many, rolls, long), weight) for weight in weights])


def squares_with_rests(many, rolls):
    """Sums of one to five squares, with a number above, at and below 0 beside, and with a straight sum beside."""
    found = []
    for count in (1, 2, 3, 4, 5):
        for turn in range(3):
            base = any_squares(many, rolls, count)
            found.append(base)
            for number in (TINY, -TINY, abs(model.any_number(rolls)), -abs(model.any_number(rolls)), -10**9):
                found.append(model.total(many, base, model.constant(many, number)))
            found.append(model.total(many, base, any_straight(many, rolls)))
    return found


def far_away(many, rolls):
    """Sums that are below 0 only far away."""
    found = []
    for letter in range(many):
        down = model.made(many, {powers: -TINY for powers, number in model.letter_sum(many, letter, 2)[1]})
        high = model.total(many, down, model.constant(many, 10**12))
        found += [high, model.total(many, high, any_straight(many, rolls))]
        slow = model.made(many, {powers: TINY for powers, number in model.letter_sum(many, letter)[1]})
        others = [model.letter_sum(many, other, 2) for other in range(many) if other != letter]
        found += [model.total(many, high, *others), model.total(many, slow, model.constant(many, 10**12), *others)]
    return found


def between(many, rolls):
    """Sums that are below 0 only in a small place."""
    found = []
    for turn in range(4):
        roots = [model.total(many, model.letter_sum(many, letter), model.constant(many, model.any_number(rolls)))
                 for letter in range(many)]
        dips = [model.square_of(root) for root in roots]
        found.append(model.total(many, model.constant(many, -TINY), *dips))
        found.append(model.total(many, model.constant(many, TINY), *dips))
    return found


def products(many, rolls):
    """Sums with products of letters whose squares don't stand in them, or stand in them too weakly."""
    found = []
    for one in range(many):
        for other in range(one + 1, many):
            powers = tuple(int(at in (one, other)) for at in range(many))
            for number in (1, -1, Fraction(-1, 10**9)):
                product = model.made(many, {powers: Fraction(number)})
                square = model.letter_sum(many, one, 2)
                late = model.letter_sum(many, other, 2)
                found += [product, model.total(many, product, square), model.total(many, product, late)]
                found += [model.total(many, product, square, late), model.total(many, product, any_straight(many, rolls))]
                found.append(model.total(many, product, product, square, late))
                found.append(model.total(many, product, product, product, square, late, model.constant(many, 10**9)))
    return found


def any_seconds(many, rolls):
    """Whatever comes, with many noughts and with few."""
    chosen = model.all_powers(many, 2)
    found = []
    for turn in range(25):
        held = [powers for powers in chosen if rolls.random() < (0.3, 0.6, 1)[turn % 3]]
        found.append(model.made(many, {powers: model.any_number(rolls) for powers in held}))
    return found


def long_ones(many, rolls):
    """Sums with fractions of some three hundred figures."""
    chosen = model.all_powers(many, 2)
    wild = {powers: model.any_number(rolls, long=True) for powers in chosen}
    calm = {powers: abs(number) + 10**3 if max(powers) == 2 else number % 1 for powers, number in wild.items()}
    short = Fraction(rolls.randint(1, 10**70), rolls.randint(1, 10**70))
    square = model.square_of(model.straight(many, *[short + at for at in range(many + 1)]), short)
    return [model.made(many, wild), model.made(many, calm), square, model.total(many, square, model.constant(many, -TINY))]


def all_sums(seed=90, long=True):
    """All of these, of one to four letters."""
    rolls = model.dice(seed)
    found = []
    for many in (1, 2, 3, 4):
        found += lone(many) + straight(many, rolls) + squares_with_rests(many, rolls) + far_away(many, rolls)
        found += between(many, rolls) + products(many, rolls) + any_seconds(many, rolls)
        if long:
            found += long_ones(many, rolls)
    return found


def above_second():
    """Sums of degree 3 and above."""
    found = []
    for many in (1, 2, 3, 4):
        for letter in range(many):
            for power in (3, 4, 5, 16):
                found.append(model.letter_sum(many, letter, power))
                found.append(model.total(many, model.letter_sum(many, letter, power), model.letter_sum(many, 0, 2)))
    found += [model.made(2, {(1, 2): Fraction(1)}), model.made(3, {(1, 1, 1): Fraction(-1)}), model.made(4, {(1, 1, 0, 1): Fraction(1)})]
    return found
