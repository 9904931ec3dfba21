"""Sums of one letter in stretches: their numbers there, and pieces that show them never below 0."""

from lowwater.fractions import beside, divided, less
from lowwater.sums import degree

NOUGHT = (0, 1)
ONE = (1, 1)


def level(some):
    """The fractions' tops over one bottom common to them all, and that bottom."""
    bottom = 1
    for top, under in some:
        bottom = bottom * divided((under, 1), (bottom, 1))[0]
    return ([top * (bottom // under) for top, under in some], bottom)


def all_powers(one):
    """The fractions of a sum of one letter from the power 0 to its degree; of the sum 0 a nought."""
    table = dict(one[1])
    return [table.get((power,), NOUGHT) for power in range(degree(one) + 1)]


def moved(one, start, pace):
    """What a sum is with start and pace times x put in for x: tops from the power 0 on, and their bottom."""
    tops, bottom = level(all_powers(one))
    (base, step), under = level([start, pace])
    row = [tops[-1]]
    # For each power the bottom of start and pace is multiplied in once, so that all stays whole numbers.
    share = 1
    for top in tops[:-1][::-1]:
        share = share * under
        row = [base * same + step * lower for same, lower in zip(row + [0], [0] + row)]
        row[0] += top * share
    return (row, bottom * share)


def factorial(many):
    """The product of the whole numbers from 1 to so many."""
    product = 1
    for factor in range(2, many + 1):
        product = product * factor
    return product


def spread(tops):
    """The numbers from 0 to 1 of the sum with these tops from the power 0 on, times the factorial of its degree."""
    most = len(tops) - 1
    row = [top * factorial(power) * factorial(most - power) for power, top in enumerate(tops)]
    # Adding neighbours up turn by turn multiplies each with as many ways as there are to choose its power.
    for turn in range(most):
        for at in reversed(range(turn + 1, most + 1)):
            row[at] += row[at - 1]
    return row


def raw_numbers(one, low, high):
    """A sum's numbers in a stretch as tops over one bottom from 1 on, not in lowest terms: (tops, bottom)."""
    if high is None:
        return moved(one, low, ONE)
    if low is None:
        return moved(one, high, (-1, 1))
    tops, bottom = moved(one, low, less(high, low))
    return (spread(tops), bottom * factorial(len(tops) - 1))


def numbers(one, low, high):
    """The numbers of a sum of one letter in a stretch that has an end."""
    tops, bottom = raw_numbers(one, low, high)
    return [divided((top, 1), (bottom, 1)) for top in tops]


def is_stretch(low, high):
    """Whether low and high are a stretch with an end: low less than high, or one of both None."""
    if low is None or high is None:
        return low != high
    return beside(low, high) < 0


def are_chained(low, high, some):
    """Whether the pieces begin and end where the stretch does, each next one where the one ahead ends."""
    ends = [piece[1] for piece in some]
    if ends == [] or ends[-1] != high or None in ends[:-1]:
        return False
    return [piece[0] for piece in some] == [low] + ends[:-1] and all([is_stretch(piece[0], piece[1]) for piece in some])


def has_numbers(one, low, high, some):
    """Whether these are the numbers of a sum in a stretch that has an end."""
    tops, bottom = raw_numbers(one, low, high)
    if len(tops) != len(some):
        return False
    return all([top * under == over * bottom for top, (over, under) in zip(tops, some)])


def are_pieces(one, low, high, some):
    """Whether a list of (low, high, numbers) are pieces of a stretch that bear out a sum of one letter there."""
    if not are_chained(low, high, some):
        return False
    for begin, end, told in some:
        if any([over < 0 for over, under in told]) or not has_numbers(one, begin, end, told):
            return False
    return True
