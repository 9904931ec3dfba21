"""Rims and straight sums of one to three letters, and what points 11 to 13 ask, reckoned by the tests themselves."""

from fractions import Fraction

import model


def any_straight(rolls, many, long=False):
    """A straight sum, often with letters that don't stand in it."""
    numbers = [model.any_number(rolls, long) if rolls.random() < 0.8 else 0 for letter in range(many + 1)]
    return model.straight(many, *numbers)


def single(rolls, many):
    """A straight sum in which at most one letter stands."""
    numbers = [0] * (many + 1)
    numbers[rolls.randrange(many)] = model.any_number(rolls)
    numbers[many] = model.any_number(rolls)
    return model.straight(many, *numbers)


def turned(one):
    return model.made(one[0], {powers: -number for powers, number in model.table_of(one).items()})


def facing(one, gap):
    """Two rims that face each other: the sum from 0 on, and at most the gap."""
    return [one, model.total(one[0], turned(one), model.constant(one[0], gap))]


def lone(many):
    """Rims that are numbers alone, by themselves and beside others."""
    above, at, below = (model.constant(many, number) for number in (Fraction(1, 2), 0, Fraction(-1, 3)))
    letter = model.letter_sum(many, many - 1)
    return [[above], [at], [below], [above, at], [above, below], [below, below], [at, at, at], [letter, at], [letter, below],
            [below, letter, above], [letter, above, turned(letter)], [at, letter, turned(letter), below]]


def pairs(many, rolls):
    """Pairs that face each other: overlapping, touching at one number, apart."""
    found = []
    for turn in range(4):
        one = any_straight(rolls, many)
        for gap in (1, Fraction(1, 10**20), 0, Fraction(-1, 10**20), -1):
            found.append(facing(one, gap))
            found.append([any_straight(rolls, many)] + facing(one, gap))
            found.append(facing(one, gap)[::-1] + [any_straight(rolls, many)])
    return found


def spots_alone(many, rolls):
    """Rims that keep one spot alone, a line alone, or, by a hair, nothing."""
    found = []
    for turn in range(4):
        edges = [model.total(many, model.letter_sum(many, letter), model.constant(many, model.any_number(rolls)))
                 for letter in range(many)]
        closed = [rim for edge in edges for rim in facing(edge, 0)]
        found += [closed, closed[1:], closed[:-1], closed[2:] or closed]
        found.append([rim for edge in edges for rim in facing(edge, Fraction(-1, 10**30))])
        corner = turned(model.total(many, *edges))
        for number in (1, 0, Fraction(-1, 10**30), -1):
            found.append(edges + [model.total(many, corner, model.constant(many, number))])
    return found


def long_ones(many, rolls, count):
    """Rims with fractions of some three hundred figures."""
    base = [any_straight(rolls, many, long=True) for turn in range(count)]
    found = [base, base[:1] + [turned(rim) for rim in base[1:]]]
    return found + [facing(base[0], number) for number in (0, Fraction(1, 10**299), Fraction(-1, 10**299))]


def all_rims(seed=110, turns=60, long=True):
    """All of these, of one to three letters."""
    rolls = model.dice(seed)
    found = []
    for many in (1, 2, 3):
        most = 4 if many == 3 else 6
        found += lone(many) + pairs(many, rolls) + spots_alone(many, rolls)
        for turn in range(turns):
            found.append([any_straight(rolls, many) for rim in range(1 + turn % most)])
            found.append([single(rolls, many) for rim in range(1 + turn % 6)])
        if long:
            found += long_ones(many, rolls, most)
    return found


def sums_for(rims, rolls, count=2):
    """Straight sums to lay over rims: the rims weighed with a number more, and others."""
    many = rims[0][0]
    found = [model.constant(many, number) for number in (0, 1, -1)]
    for turn in range(count):
        weights = [abs(model.any_number(rolls)) if rolls.random() < 0.7 else Fraction(0) for rim in rims]
        table = model.weighed(many, [(weight, model.table_of(rim)) for weight, rim in zip(weights, rims)])
        for number in (Fraction(rolls.randint(1, 9), 7), 0, Fraction(-1, 10**25), -3):
            found.append(model.total(many, model.made(many, table), model.constant(many, number)))
        found.append(any_straight(rolls, many))
    found.append(model.letter_sum(many, rolls.randrange(many)))
    return found


def keeps(rims, spot):
    if len(spot) != rims[0][0]:
        return False
    return all(model.worth(model.table_of(rim), spot) >= 0 for rim in rims)


def come_to(number, rims, weights):
    """What a number and the weighed rims come to, or None where the weights are none of these rims."""
    if len(weights) != len(rims) or any(weight[0] < 0 for weight in weights):
        return None
    many = rims[0][0]
    table = model.weighed(many, [(Fraction(*weight), model.table_of(rim)) for weight, rim in zip(weights, rims)])
    return model.total(many, model.made(many, table), model.constant(many, Fraction(*number)))


def break_rims(rims, weights):
    return come_to((0, 1), rims, weights) == model.constant(rims[0][0], -1)


def tilt(one, way):
    """The first power of t of a straight sum along a way."""
    return model.worth(model.table_of(one), way) - model.worth(model.table_of(one), ((0, 1),) * one[0])


def right_kept(rims, told):
    """Whether a tuple is right by point 11."""
    if told[0] == "none":
        return break_rims(rims, told[1])
    return told[0] == "kept" and keeps(rims, told[1])


def right_over(one, rims, told):
    """Whether a tuple is right by point 12."""
    if told[0] == "none":
        return break_rims(rims, told[1])
    if told[0] == "so":
        return told[1][0] >= 0 and come_to(told[1], rims, told[2]) == one
    return told[0] == "below" and keeps(rims, told[1]) and model.worth(model.table_of(one), told[1]) < 0


def right_reach(one, rims, told):
    """Whether a tuple is right by point 13."""
    if told[0] == "none":
        return break_rims(rims, told[1])
    if told[0] == "least":
        word, number, spot, weights = told
        if not keeps(rims, spot) or come_to(number, rims, weights) != one:
            return False
        return model.worth(model.table_of(one), spot) == Fraction(*number)
    if told[0] != "falls":
        return False
    word, spot, way = told
    if not keeps(rims, spot) or len(way) != one[0] or not any(step[0] for step in way):
        return False
    return all(tilt(rim, way) >= 0 for rim in rims) and tilt(one, way) < 0
