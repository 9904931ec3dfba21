"""Sums of one to three letters in boxes: their numbers there, and trees of cuts that show them never below 0."""

from lowwater.fractions import divided

NOUGHT = (0, 1)


def level(some):
    """The fractions' tops over one bottom common to them all, and that bottom."""
    bottom = 1
    for top, under in some:
        bottom = bottom * divided((under, 1), (bottom, 1))[0]
    return ([top * (bottom // under) for top, under in some], bottom)


def sizes_of(one):
    """For each letter how many numbers stand along it: one more than the sum's greatest power of it."""
    many, terms = one
    return [max([powers[letter] for powers, number in terms], default=0) + 1 for letter in range(many)]


def all_places(sizes):
    """All tuples of whole numbers from 0 on below the sizes, rising."""
    places = [()]
    for size in sizes:
        places = [place + (step,) for place in places for step in range(size)]
    return places


def lines_along(sizes, letter):
    """For each line of numbers along a letter where they stand in the row of all."""
    stride = 1
    for size in sizes[letter + 1:]:
        stride = stride * size
    starts = [at for at, place in enumerate(all_places(sizes)) if place[letter] == 0]
    return [[start + step * stride for step in range(sizes[letter])] for start in starts]


def all_lines(sizes):
    """For each letter the lines of numbers along it."""
    return [lines_along(sizes, letter) for letter in range(len(sizes))]


def factorial(many):
    """The product of the whole numbers from 1 to so many."""
    product = 1
    for factor in range(2, many + 1):
        product = product * factor
    return product


def folded(line, tops, under):
    """A line of numbers folded together, neighbour by neighbour, once by each top over the bottom."""
    for top in tops:
        line = [under * same + top * higher for same, higher in zip(line, line[1:])]
    return line[0]


def line_numbers(line, low, high, under):
    """The numbers of a line of powers from low to high, tops over a bottom.

    They are multiplied by the factorial of the greatest power, and by the bottom as often as that power.
    """
    most = len(line) - 1
    shares = [top * factorial(power) * factorial(most - power) for power, top in enumerate(line)]
    return [folded(shares, [low] * (most - at) + [high] * at, under) for at in range(most + 1)]


def box_row(one, box):
    """A sum's numbers in a box as tops over one bottom from 1 on, not in lowest terms: (tops, bottom)."""
    sizes = sizes_of(one)
    table = dict(one[1])
    row, bottom = level([table.get(place, NOUGHT) for place in all_places(sizes)])
    for letter, ends in enumerate(box):
        (first, last), under = level(ends)
        for line in lines_along(sizes, letter):
            found = line_numbers([row[at] for at in line], first, last, under)
            for at, top in zip(line, found):
                row[at] = top
        bottom = bottom * factorial(sizes[letter] - 1)
        for turn in range(sizes[letter] - 1):
            bottom = bottom * under
    return (row, bottom)


def box_numbers(one, box):
    """The numbers of a sum in a box, one for each tuple of whole numbers to the sum's greatest powers, rising."""
    row, bottom = box_row(one, box)
    return [divided((top, 1), (bottom, 1)) for top in row]


def line_halved(line):
    """A line's whole numbers in its lower and its upper half, each times 2 as often as the greatest power."""
    low, high = [], []
    spare = len(line) - 1
    while line != []:
        low.append(line[0] << spare)
        high.append(line[-1] << spare)
        line = [first + second for first, second in zip(line, line[1:])]
        spare -= 1
    return (low, high[::-1])


def row_halved(row, lines):
    """A box's whole numbers in its two halves by a letter, the lines along it being told."""
    lower, upper = list(row), list(row)
    for line in lines:
        low, high = line_halved([row[at] for at in line])
        for at, first, second in zip(line, low, high):
            lower[at] = first
            upper[at] = second
    return (lower, upper)


def holds(row, tree, lines):
    """Whether at each "all" of a tree none of a box's numbers, this row at its top, is below 0."""
    if tree == "all":
        return min(row) >= 0
    letter, low, high = tree
    if letter not in range(len(lines)):
        return False
    lower, upper = row_halved(row, lines[letter])
    return holds(lower, low, lines) and holds(upper, high, lines)


def bears_tree(one, box, tree):
    """Whether a tree of a box bears out a sum in it."""
    row, bottom = box_row(one, box)
    return holds(row, tree, all_lines(sizes_of(one)))
