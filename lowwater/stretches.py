"""Where a sum of one letter is never below 0 in a stretch, and how low it comes there, to a gap."""

from lowwater.fractions import added, beside, divided, less, multiplied
from lowwater.parts import split
from lowwater.pieces import NOUGHT, ONE, are_pieces, moved, numbers, raw_numbers
from lowwater.sums import plus, scaled, worth

SUM_ONE = (1, (((0,), (1, 1)),))
HALF = (1, 2)


def square_and_rest(one):
    """The split of a sum; of the sum 0 the sum 1 and the sum 0."""
    if one[1] == ():
        return (SUM_ONE, one)
    return split(one)


def halved(row):
    """A cell's whole numbers in its lower and its upper half, each times 2 as often as the degree."""
    low, high = [], []
    spare = len(row) - 1
    while row != []:
        low.append(row[0] << spare)
        high.append(row[-1] << spare)
        row = [first + second for first, second in zip(row, row[1:])]
        spare -= 1
    return (low, high[::-1])


def halves_of(cells):
    """The cells of the next layer: (place, row), the place counted in cells of that layer from 0."""
    found = []
    for place, row in cells:
        low, high = halved(row)
        found += [(2 * place, low), (2 * place + 1, high)]
    return found


def cut_places(layers):
    """The places from 0 to 1, rising, at which the cells of these places in each layer are cut."""
    finest = len(layers)
    places = []
    for depth, left in enumerate(layers, start=1):
        places += [((2 * place + 1) << (finest - depth), (2 * place + 1, 1 << depth)) for place in left]
    return [place for rank, place in sorted(places)]


def lowest_end(cells):
    """The least of the worths at the cells' ends and its place in this layer: (worth, place)."""
    ends = [(row[0], place) for place, row in cells] + [(row[-1], place + 1) for place, row in cells]
    return min(ends)


def searched(row):
    """(place, cuts): from 0 to 1 a place where a sum with these numbers is below 0, or None and where it is cut."""
    cells = [(0, row)]
    layers = []
    while True:
        low, place = lowest_end(cells)
        if low < 0:
            return (divided((place, 1), (1 << len(layers), 1)), [])
        cells = [cell for cell in cells if min(cell[1]) < 0]
        if cells == []:
            return (None, cut_places(layers))
        layers.append([place for place, row in cells])
        cells = halves_of(cells)


def lone_course(one, start, pace):
    """The sum with start and pace times x put in, but for a factor above 0: of whole numbers alone."""
    tops, bottom = moved(one, start, pace)
    return (1, tuple([((power,), (top, 1)) for power, top in enumerate(tops) if top != 0]))


def furthest(course, grid, at):
    """The last place of the grid up to which the course has no number below 0 from a place of it on."""
    # Where a stretch has no number below 0 its parts have none either; and from each place to the next there is none.
    good, bad = at + 1, len(grid)
    while bad - good > 1:
        middle = (good + bad) // 2
        if min(raw_numbers(course, grid[at], grid[middle])[0]) < 0:
            bad = middle
        else:
            good = middle
    return good


def wide_cuts(course, grid):
    """As few of the grid's places as serve, its ends among them."""
    kept_places = [grid[0]]
    at = 0
    while at < len(grid) - 1:
        at = furthest(course, grid, at)
        kept_places.append(grid[at])
    return kept_places


def place_at(start, pace, place):
    """Start and the pace times the place, or None where there is no place."""
    if place is None:
        return None
    return added(start, multiplied(pace, place))


def pieces_along(one, start, pace, grid):
    """The pieces of a sum along the grid's places, by start and pace."""
    places = wide_cuts(lone_course(one, start, pace), grid)
    ends = [place_at(start, pace, place) for place in places]
    if pace[0] < 0:
        ends = ends[::-1]
    return [(low, high, numbers(one, low, high)) for low, high in zip(ends, ends[1:])]


def is_clear(one, start, side, bits):
    """Whether no number is below 0 in the half line to this side (1 or -1) from beyond the start on."""
    tops, bottom = moved(one, added(start, (side << bits, 1)), (side, 1))
    return min(tops) >= 0


def clear_bits(one, start, side):
    """How often 1 is to be doubled so that the half line that far beyond the start is clear."""
    if is_clear(one, start, side, 0):
        return 0
    short, long = 0, 1
    while not is_clear(one, start, side, long):
        short, long = long, 2 * long
    while long - short > 1:
        middle = (short + long) // 2
        if is_clear(one, start, side, middle):
            long = middle
        else:
            short = middle
    return long


def far_place(one, start, side):
    """A place to this side of the start where the sum, which falls there at last, is below 0."""
    bits = 1
    place = added(start, (side, 1))
    while worth(one, (place,))[0] >= 0:
        place = added(start, (side << bits, 1))
        bits = 2 * bits
    return place


def looked_beyond(one, start, side):
    """As looked_through, of the half line from the start to a side."""
    tops, bottom = moved(one, start, (side, 1))
    if tops[-1] < 0:
        return (far_place(one, start, side), [])
    pace = (side << clear_bits(one, start, side), 1)
    tops, bottom = raw_numbers(lone_course(one, start, pace), NOUGHT, ONE)
    place, cuts = searched(tops)
    if place is not None:
        return (place_at(start, pace, place), [])
    return (None, pieces_along(one, start, pace, [NOUGHT] + cuts + [ONE, None]))


def looked_between(one, low, high):
    """As looked_through, of a stretch with both ends."""
    tops, bottom = raw_numbers(one, low, high)
    pace = less(high, low)
    place, cuts = searched(tops)
    if place is not None:
        return (place_at(low, pace, place), [])
    return (None, pieces_along(one, low, pace, [NOUGHT] + cuts + [ONE]))


def looked_through(one, low, high):
    """(place, pieces): a place of the stretch where a sum is below 0, or None and pieces that bear it out.

    Where it is not below 0 it must not be 0 but at the stretch's ends: else there need be no pieces.
    """
    if low is not None and high is not None:
        return looked_between(one, low, high)
    if low is not None:
        return looked_beyond(one, low, 1)
    if high is not None:
        return looked_beyond(one, high, -1)
    place, lower = looked_beyond(one, NOUGHT, -1)
    if place is not None:
        return (place, [])
    place, upper = looked_beyond(one, NOUGHT, 1)
    return (place, lower + upper)


def inner_place(low, high, place):
    """Another place of the stretch than one of it."""
    if high is None:
        return added(place, ONE)
    if place != high:
        return high
    if low is None:
        return less(place, ONE)
    return low


def spot_near(one, low, high, place):
    """A spot of the stretch where a sum is below 0, by a place where its rest is."""
    other = inner_place(low, high, place)
    found = place
    # At the place itself the root may be 0, but near it there are places where it isn't.
    while worth(one, (found,))[0] >= 0:
        other = multiplied(added(place, other), HALF)
        found = other
    return (found,)


def never(one, low, high):
    """("so", root, rest, pieces) or ("below", spot) of a sum of one letter in a stretch."""
    root, rest = square_and_rest(one)
    place, found = looked_through(rest, low, high)
    if place is not None:
        return ("below", spot_near(one, low, high, place))
    return ("so", root, rest, found)


def narrowed(row, gap):
    """(worth, place, layers) of whole numbers: the least worth found at a place, and the cells cut.

    In what is left no number is below that worth, as often doubled as the layers ask for, less the gap.
    """
    most = len(row) - 1
    cells = [(0, row)]
    layers = []
    best, spot = lowest_end(cells)
    while True:
        best, spot = min((best, spot), lowest_end(cells))
        cells = [cell for cell in cells if min(cell[1]) < best - gap]
        if cells == []:
            return (best, spot, layers)
        layers.append([place for place, row in cells])
        cells = halves_of(cells)
        best, spot, gap = best << most, 2 * spot, gap << most


def lowered(one, number):
    """A sum of one letter less a number."""
    return plus(one, scaled(SUM_ONE, less(NOUGHT, number)))


def nearly(one, low, high, gap):
    """(number, spot, pieces): pieces of the sum less the number, a spot whose worth is at most the gap above it."""
    tops, bottom = raw_numbers(one, low, high)
    best, place, layers = narrowed([top * gap[1] for top in tops], gap[0] * bottom)
    pace = less(high, low)
    spot = (place_at(low, pace, divided((place, 1), (1 << len(layers), 1))),)
    number = less(worth(one, spot), gap)
    grid = [NOUGHT] + cut_places(layers) + [ONE]
    return (number, spot, pieces_along(lowered(one, number), low, pace, grid))


def is_nearly(one, low, high, gap, told):
    """Whether a number, a spot and pieces, a tuple as nearly tells it, are right."""
    number, spot, some = told
    if len(spot) != 1 or beside(spot[0], low) < 0 or beside(spot[0], high) > 0:
        return False
    if beside(less(worth(one, spot), number), gap) > 0:
        return False
    return are_pieces(lowered(one, number), low, high, some)
