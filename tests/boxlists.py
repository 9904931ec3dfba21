"""Sums in boxes, and what points 20 to 22 ask, reckoned by the tests themselves."""

import itertools
from fractions import Fraction
from math import comb

import model

# For so many letters the greatest power of one: to be told by layers, and to have numbers in a box at all.
LAYER_POWERS = {1: 4, 2: 2, 3: 1}
BOX_POWERS = {1: 4, 2: 2, 3: 2}


def most_of(one):
    """The sum's greatest power of each letter."""
    return [max((powers[letter] for powers, number in one[1]), default=0) for letter in range(one[0])]


def places_of(one):
    return list(itertools.product(*[range(most + 1) for most in most_of(one)]))


def fractions_of(box):
    return [(Fraction(*low), Fraction(*high)) for low, high in box]


def handed(box):
    """A box of Fractions as it is handed in."""
    return [(model.pair(low), model.pair(high)) for low, high in box]


def share(times, at, most, low, high):
    """What a power of a letter gives to the number at a place: the mean of its products of as many ends."""
    taken = range(max(0, times - most + at), min(at, times) + 1)
    return sum(comb(at, k) * comb(most - at, times - k) * high ** k * low ** (times - k) for k in taken) / Fraction(comb(most, times))


def numbers_in(one, box):
    """The numbers of a sum in a box of Fractions, rising by their places."""
    most = most_of(one)
    table = model.table_of(one)
    shares = [[[share(times, at, top, low, high) for at in range(top + 1)] for times in range(top + 1)]
              for top, (low, high) in zip(most, box)]
    found = []
    for place in places_of(one):
        total = Fraction(0)
        for powers, number in table.items():
            for letter, times in enumerate(powers):
                number *= shares[letter][times][place[letter]]
            total += number
        found.append(total)
    return found


def straight(many, letter, factor, number):
    return model.table_of(model.straight(many, *[factor if at == letter else 0 for at in range(many)], number))


def power(many, table, times):
    result = {(0,) * many: Fraction(1)}
    for _ in range(times):
        result = model.multiplied(result, table)
    return result


def come_to(one, box, numbers):
    """Whether these are a sum's numbers in a box, by the document's own equation multiplied out."""
    many, most, places = one[0], most_of(one), places_of(one)
    if len(numbers) != len(places):
        return False
    factor = Fraction(1)
    for (low, high), top in zip(fractions_of(box), most):
        factor *= (high - low) ** top
    pairs = []
    for place, number in zip(places, numbers):
        table = {(0,) * many: Fraction(1)}
        for letter, ((low, high), top, at) in enumerate(zip(fractions_of(box), most, place)):
            lower = power(many, straight(many, letter, 1, -low), at)
            upper = power(many, straight(many, letter, -1, high), top - at)
            table = model.multiplied(table, model.multiplied(lower, upper))
            table = {powers: comb(top, at) * share for powers, share in table.items()}
        pairs.append((Fraction(*number), table))
    wanted = {powers: number * factor for powers, number in model.table_of(one).items()}
    return model.made(many, model.weighed(many, pairs)) == model.made(many, wanted)


def halves(box, letter):
    """The two halves of a box of Fractions, cut at the middle of a letter's stretch."""
    low, high = box[letter]
    middle = (low + high) / 2
    return (box[:letter] + [(low, middle)] + box[letter + 1:], box[:letter] + [(middle, high)] + box[letter + 1:])


def bears(one, box, tree):
    """Whether a tree bears out a sum in a box of Fractions."""
    if tree == "all":
        return min(numbers_in(one, box)) >= 0
    letter, low, high = tree
    lower, upper = halves(box, letter)
    return bears(one, lower, low) and bears(one, upper, high)


def cuts_in(tree):
    return 0 if tree == "all" else 1 + cuts_in(tree[1]) + cuts_in(tree[2])


def depth_of(tree):
    return 0 if tree == "all" else 1 + max(depth_of(tree[1]), depth_of(tree[2]))


def is_tree(tree, many):
    if tree == "all":
        return True
    if type(tree) is not tuple or len(tree) != 3 or type(tree[0]) is not int or not 0 <= tree[0] < many:
        return False
    return is_tree(tree[1], many) and is_tree(tree[2], many)


def corners(box):
    return list(itertools.product(*box))


def worth(one, spot):
    return model.worth(model.table_of(one), [model.pair(place) for place in spot])


def walk(one, box, limit):
    """Point 21's layers: ("below", the corners below 0), ("so", how many layers) or ("many", how many layers)."""
    boxes = [box]
    for layer in range(1, 41):
        below = {spot for part in boxes for spot in corners(part) if worth(one, spot) < 0}
        if below:
            return "below", below
        left = [part for part in boxes if min(numbers_in(one, part)) < 0]
        if not left:
            return "so", layer
        if len(left) > limit:
            return "many", layer
        boxes = [half for part in left for half in halves(part, (layer - 1) % one[0])]
    return "many", 40


def walk_nearly(one, box, gap, limit):
    """Point 22's layers: ("told", the least worth at a corner) or ("many", how many layers)."""
    boxes, high = [box], None
    for layer in range(1, 41):
        worths = [worth(one, spot) for part in boxes for spot in corners(part)]
        high = min(worths + ([] if high is None else [high]))
        left = [part for part in boxes if min(numbers_in(one, part)) < high - gap]
        if not left:
            return "told", high
        if len(left) > limit:
            return "many", layer
        boxes = [half for part in left for half in halves(part, (layer - 1) % one[0])]
    return "many", 40


def right_nearly_in(one, box, gap, told):
    """Whether a tuple is right by point 22."""
    number, spot, tree = told
    ends = fractions_of(box)
    if len(spot) != len(ends) or not all(low <= Fraction(*place) <= high for (low, high), place in zip(ends, spot)):
        return False
    if worth(one, [Fraction(*place) for place in spot]) > Fraction(*number) + Fraction(*gap):
        return False
    return bears(less_number(one, Fraction(*number)), ends, tree)


def less_number(one, number):
    return model.total(one[0], one, model.constant(one[0], -number))


def any_of_powers(rolls, many, most, share=0.7, long=False):
    """A sum of so many letters, no power of one above the most."""
    table = {powers: model.any_number(rolls, long) for powers in itertools.product(range(most + 1), repeat=many)
             if rolls.random() < share}
    return model.made(many, table)


def any_box(rolls, many, long=False):
    """A box of Fractions."""
    found = []
    for letter in range(many):
        low = model.any_number(rolls, long)
        found.append((low, low + (abs(model.any_number(rolls, long)) or Fraction(1, 5))))
    return found


def any_tree(rolls, many, cuts, depth):
    """A tree of about so many cuts, so many within one another at most."""
    if cuts == 0 or depth == 0:
        return "all"
    lower = rolls.choice((0, cuts - 1, rolls.randint(0, cuts - 1)))
    return (rolls.randrange(many), any_tree(rolls, many, lower, depth - 1), any_tree(rolls, many, cuts - 1 - lower, depth - 1))


def comb_tree(many, depth, sides=(0,)):
    """A tree of so many cuts, each within the one ahead, by each letter in turn, to the sides in turn."""
    tree = "all"
    for turn in reversed(range(depth)):
        side = sides[turn % len(sides)]
        tree = (turn % many, tree, "all") if side == 0 else (turn % many, "all", tree)
    return tree
