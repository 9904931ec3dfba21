"""Whether a sum is never below 0 in a box, and how low it comes there, to a gap, by layers of ever smaller boxes."""

from lowwater.boxes import NOUGHT, all_lines, all_places, bears_tree, box_row, row_halved, sizes_of
from lowwater.errors import TooMany
from lowwater.fractions import added, beside, less, multiplied
from lowwater.sums import plus, scaled, worth

MOST_LAYERS = 40
ONE = (1, 1)
HALF = (1, 2)


def corner_marks(sizes):
    """The corners of a box: where each stands in the row of its numbers, and for each letter 0 if low, 1 if high."""
    marks = []
    for at, place in enumerate(all_places(sizes)):
        if all([step == 0 or step == size - 1 for step, size in zip(place, sizes)]):
            marks.append((at, tuple([min(step, 1) for step in place])))
    return marks


def lowest_corner(cells, marks):
    """The least worth at a corner of the boxes, the box's name and the corner: (worth, name, sides)."""
    return min([(row[at], name, sides) for name, row in cells for at, sides in marks])


def side_box(box, name):
    """The box that bears the name: that of the whole is 1, those of the halves are twice it, and one more."""
    found = list(box)
    depth = name.bit_length() - 1
    for turn in range(depth):
        letter = turn % len(box)
        low, high = found[letter]
        middle = multiplied(added(low, high), HALF)
        is_upper = (name >> (depth - 1 - turn)) & 1 == 1
        found[letter] = (middle, high) if is_upper else (low, middle)
    return found


def corner_spot(box, name, sides):
    """The spot that is a corner of the box of this name."""
    return tuple([ends[side] for ends, side in zip(side_box(box, name), sides)])


def tree_of(name, cuts, many):
    """The tree from the box of this name on, the names of all boxes that are cut being told."""
    if name not in cuts:
        return "all"
    letter = (name.bit_length() - 1) % many
    return (letter, tree_of(2 * name, cuts, many), tree_of(2 * name + 1, cuts, many))


def refuse_many(left, layer, limit):
    """Refused with TooMany where more boxes are left than the limit, or some in the last layer."""
    if len(left) > limit:
        raise TooMany(f"{len(left)} boxes are left in layer {layer}")
    if layer >= MOST_LAYERS:
        raise TooMany(f"boxes are left in layer {layer}")


def next_layer(left, lines, cuts):
    """The halves of the boxes left, which are put among the cuts."""
    cells = []
    for name, row in left:
        cuts[name] = True
        lower, upper = row_halved(row, lines)
        cells += [(2 * name, lower), (2 * name + 1, upper)]
    return cells


def never_in(one, box, limit=20):
    """("so", tree) or ("below", spot) of a sum in a box; refused with TooMany."""
    many = one[0]
    sizes = sizes_of(one)
    lines, marks = all_lines(sizes), corner_marks(sizes)
    row, bottom = box_row(one, box)
    cells, cuts = [(1, row)], {}
    layer = 1
    while True:
        low, name, sides = lowest_corner(cells, marks)
        if low < 0:
            return ("below", corner_spot(box, name, sides))
        left = [cell for cell in cells if min(cell[1]) < 0]
        if left == []:
            return ("so", tree_of(1, cuts, many))
        refuse_many(left, layer, limit)
        cells = next_layer(left, lines[(layer - 1) % many], cuts)
        layer += 1


def nearly_in(one, box, gap, limit=20):
    """(number, spot, tree): a tree of the sum less the number, a spot whose worth is at most the gap above it."""
    many = one[0]
    sizes = sizes_of(one)
    lines, marks = all_lines(sizes), corner_marks(sizes)
    row, bottom = box_row(one, box)
    cells, cuts = [(1, [top * gap[1] for top in row])], {}
    width = gap[0] * bottom
    high = lowest_corner(cells, marks)
    layer = 1
    while True:
        high = min(high, lowest_corner(cells, marks))
        left = [cell for cell in cells if min(cell[1]) < high[0] - width]
        if left == []:
            spot = corner_spot(box, high[1], high[2])
            return (less(worth(one, spot), gap), spot, tree_of(1, cuts, many))
        refuse_many(left, layer, limit)
        letter = (layer - 1) % many
        cells = next_layer(left, lines[letter], cuts)
        # Halving doubles all numbers of the cells as often as the letter's greatest power.
        twice = sizes[letter] - 1
        high, width = (high[0] << twice, high[1], high[2]), width << twice
        layer += 1


def lowered(one, number):
    """A sum less a number."""
    lone = (one[0], (((0,) * one[0], ONE),))
    return plus(one, scaled(lone, less(NOUGHT, number)))


def is_inside(box, spot):
    """Whether a spot is in a box, its sides too."""
    if len(spot) != len(box):
        return False
    return all([beside(low, place) <= 0 and beside(place, high) <= 0 for (low, high), place in zip(box, spot)])


def is_nearly_in(one, box, gap, told):
    """Whether a number, a spot and a tree, a tuple as nearly_in tells it, are right."""
    number, spot, tree = told
    if not is_inside(box, spot) or beside(less(worth(one, spot), number), gap) > 0:
        return False
    return bears_tree(lowered(one, number), box, tree)
