"""Papers of squares, weights and pieces turned into rows."""

from lowwater.pieces import numbers
from lowwater.sums import degree

NOUGHT = (0, 1)
ONE = (1, 1)


def put(rows, row):
    """Puts a row behind the rows and tells its number."""
    rows.append(row)
    return len(rows) - 1


def put_weighted(rows, place, weight):
    """Puts a row times a weight behind the rows and tells its number."""
    return put(rows, ("times", place, put(rows, ("number", weight))))


def put_total(rows, places):
    """Puts what the rows of these numbers, the last row's among them, come to behind the rows."""
    total = places[0]
    for place in places[1:]:
        total = put(rows, ("plus", total, place))


def rows_of_squares(some):
    """Rows without rims, the last of which is the sum that the squares bear out."""
    if some == []:
        return [("number", NOUGHT)]
    rows = []
    places = []
    for weight, root in some:
        places.append(put_weighted(rows, put(rows, ("square", root)), weight))
    put_total(rows, places)
    return rows


def rows_of_weights(number, rims, weights):
    """Rows by the rims, the last of which is the number and the rims times their weights."""
    rows = [("number", number)]
    places = [0]
    for at in range(len(rims)):
        places.append(put_weighted(rows, put(rows, ("rim", at)), weights[at]))
    put_total(rows, places)
    return rows


def put_powers(rows, rim, most):
    """Puts the powers of a rim behind the rows and tells their numbers, from the power 0 to the greatest."""
    base = put(rows, ("rim", rim))
    places = [put(rows, ("number", ONE))]
    for turn in range(most):
        places.append(put(rows, ("times", places[-1], base)))
    return places


def ways(most, chosen):
    """As many as there are ways to choose so many of the most."""
    product = 1
    for turn in range(chosen):
        product = product * (most - turn) // (turn + 1)
    return product


def put_pairs(rows, most):
    """Puts the products of both rims' powers that come to the most behind the rows, each as often as there are ways."""
    lower = put_powers(rows, 0, most)
    upper = put_powers(rows, 1, most)
    places = []
    for power, place in enumerate(lower):
        pair = put(rows, ("times", place, upper[most - power]))
        places.append(put_weighted(rows, pair, (ways(most, power), 1)))
    return places


def rows_of_piece(root, rest, low, high):
    """Rows by the rims x - low and high - x, those that are there, for a piece from low to high.

    The last one is the root's square times the rest, with both ends times high - low as often as the rest's degree.
    """
    rows = []
    most = degree(rest)
    if low is None or high is None:
        shapes = put_powers(rows, 0, most)
    else:
        shapes = put_pairs(rows, most)
    places = []
    for place, weight in zip(shapes, numbers(rest, low, high)):
        places.append(put_weighted(rows, place, weight))
    put_total(rows, places)
    whole = len(rows) - 1
    put(rows, ("times", whole, put(rows, ("square", root))))
    return rows
