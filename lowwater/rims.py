"""Straight rims: whether some spot keeps them, and whether a straight sum is never below 0 where they are kept.

All is found by taking the letters away one by one. A row is a list of whole numbers: the number of each letter, that
of the level, the lone one, and then how often each rim, and at last the sum's own row, went into it. A row is kept
where letters, level and lone number come to 0 or more. The level is one more unknown, told to be from the sum on.
"""

from lowwater.errors import NotStraight
from lowwater.fractions import added, divided, multiplied
from lowwater.sums import degree, plus, scaled, worth

NOUGHT = (0, 1)
ONE = (1, 1)


def refuse_bent(some):
    """Refused with NotStraight where one of the sums has a degree above 1."""
    for one in some:
        if degree(one) > 1:
            raise NotStraight(f"a sum of degree {degree(one)}")


def whole_numbers(one):
    """(numbers, bottom): the numbers of a straight sum's letters, then its lone one, whole ones over one bottom."""
    many, terms = one
    numbers = [NOUGHT] * (many + 1)
    for powers, number in terms:
        numbers[powers.index(1) if sum(powers) == 1 else many] = number
    bottom = 1
    for top, under in numbers:
        bottom = bottom * divided((under, 1), (bottom, 1))[0]
    return ([top * (bottom // under) for top, under in numbers], bottom)


def rim_row(rim, at, count):
    """The row that stands for a rim, the one at this place of so many."""
    numbers, bottom = whole_numbers(rim)
    shares = [bottom if place == at else 0 for place in range(count + 1)]
    return numbers[:-1] + [0, numbers[-1]] + shares


def level_row(one, count):
    """The row that stands for the level less the sum, behind so many rims."""
    numbers, bottom = whole_numbers(one)
    return [-number for number in numbers[:-1]] + [bottom, -numbers[-1]] + [0] * count + [bottom]


def rim_rows(rims):
    """The rows that stand for the rims."""
    return [rim_row(rim, at, len(rims)) for at, rim in enumerate(rims)]


def combined(up, down, letter):
    """The row of both in which the letter, above 0 in the one and below 0 in the other, cancels out."""
    return [first * -down[letter] + second * up[letter] for first, second in zip(up, down)]


def taken_away(rows, letter, many):
    """What the rows, with no letter ahead of this one, tell of the letters behind it and the level."""
    ups = [row for row in rows if row[letter] > 0]
    downs = [row for row in rows if row[letter] < 0]
    others = [row for row in rows if row[letter] == 0]
    found = {}
    for row in others + [combined(up, down, letter) for up in ups for down in downs]:
        bearers = tuple([at for at, share in enumerate(row[many + 2:]) if share != 0])
        # A row of more bearers than letters gone and one, or of the same as another row, follows from the others.
        if len(bearers) <= letter + 2 and bearers not in found:
            found[bearers] = row
    return list(found.values())


def stages(rows, many):
    """The rows with all letters, with all but the first, and so on to none: a list of lists of rows."""
    found = [rows]
    for letter in range(many):
        found.append(taken_away(found[-1], letter, many))
    return found


def row_worth(numbers, known):
    """What whole numbers, each times its fraction, come to."""
    total = NOUGHT
    for number, fraction in zip(numbers, known):
        total = added(total, multiplied((number, 1), fraction))
    return total


def nearest(rows, letter, known):
    """The number nearest to 0 for a letter by which the rows are kept, with all behind the letter known."""
    value = NOUGHT
    for row in rows:
        # Some number keeps all rows, so those that push away from 0 all push the same way.
        rest = row_worth(row[letter + 1:], known)
        if added(multiplied((row[letter], 1), value), rest)[0] < 0:
            value = divided(rest, (-row[letter], 1))
    return value


def spot_of(found, many, level):
    """A spot that keeps the rows, from what stages told of them, at a level that allows it."""
    known = [level, ONE]
    for letter in reversed(range(many)):
        known = [nearest(found[letter], letter, known)] + known
    return tuple(known[:many])


def shares_over(row, many, bottom):
    """How often each rim went into a row, divided by a number."""
    return [divided((share, 1), (bottom, 1)) for share in row[many + 2:-1]]


def broken(rows, many):
    """The weights by which the rims come to -1, from rows without letters, or None."""
    for row in rows:
        level, lone = row[many:many + 2]
        if level == 0 and lone < 0:
            return shares_over(row, many, -lone)
    return None


def tightest(rows, many):
    """Of rows without letters the one that holds the level highest, or None where none holds it."""
    best = None
    for row in rows:
        level, lone = row[many:many + 2]
        if level > 0 and (best is None or lone * best[many] < best[many + 1] * level):
            best = row
    return best


def way_down(rows, many):
    """A way along which no rim falls and the sum, the last row's, does."""
    steps = [row[:many] + [0, 0] + row[many + 2:] for row in rows]
    # The sum shall fall by something: by how much is free, as a way may be made longer.
    steps[-1][many + 1] = -1
    return spot_of(stages(steps, many), many, NOUGHT)


def low_end(one, rims):
    """What reach tells of a straight sum and rims; where the sum falls, it is below 0 at the spot already."""
    refuse_bent([one] + rims)
    many = one[0]
    rows = rim_rows(rims) + [level_row(one, len(rims))]
    found = stages(rows, many)
    weights = broken(found[-1], many)
    if weights is not None:
        return ("none", weights)
    best = tightest(found[-1], many)
    if best is None:
        return ("falls", spot_of(found, many, (-1, 1)), way_down(rows, many))
    number = divided((-best[many + 1], 1), (best[many], 1))
    return ("least", number, spot_of(found, many, number), shares_over(best, many, best[many]))


def kept(rims):
    """("kept", spot) or ("none", weights) of rims; refused with NotStraight."""
    refuse_bent(rims)
    many = rims[0][0]
    found = stages(rim_rows(rims), many)
    weights = broken(found[-1], many)
    if weights is not None:
        return ("none", weights)
    return ("kept", spot_of(found, many, NOUGHT))


def over(one, rims):
    """("none", weights), ("so", number, weights) or ("below", spot) of a straight sum; refused with NotStraight."""
    told = low_end(one, rims)
    if told[0] == "none":
        return told
    if told[0] == "falls":
        return ("below", told[1])
    word, number, spot, weights = told
    if number[0] < 0:
        return ("below", spot)
    return ("so", number, weights)


def keeps(many, rims, spot):
    """Whether a tuple of fractions is a spot of so many letters that keeps the rims."""
    return len(spot) == many and all([worth(rim, spot)[0] >= 0 for rim in rims])


def lone_sum(many, number):
    """The sum of so many letters that is a number alone."""
    return scaled((many, (((0,) * many, ONE),)), number)


def bears(one, number, rims, weights):
    """Whether the weights are weights of the rims by which they and the number come to the sum."""
    if len(weights) != len(rims) or any([weight[0] < 0 for weight in weights]):
        return False
    total = lone_sum(one[0], number)
    for rim, weight in zip(rims, weights):
        total = plus(total, scaled(rim, weight))
    return total == one


def is_over(one, rims, told):
    """Whether what is told of a sum and rims, a tuple as over tells it, or kept with None for the sum, is right."""
    many = rims[0][0] if one is None else one[0]
    if told[0] == "none":
        return bears(lone_sum(many, (-1, 1)), NOUGHT, rims, told[1])
    if one is None:
        return told[0] == "kept" and keeps(many, rims, told[1])
    if told[0] == "so":
        word, number, weights = told
        return number[0] >= 0 and bears(one, number, rims, weights)
    return told[0] == "below" and keeps(many, rims, told[1]) and worth(one, told[1])[0] < 0
