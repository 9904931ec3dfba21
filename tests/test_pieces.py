"""Points 16 and 17: the numbers of a sum of one letter in a stretch, and pieces."""

import copy
import unittest
from fractions import Fraction

import model
import stretchlists
from lowwater.pieces import are_pieces, numbers
from stretchlists import cut_pieces, end, ends_of, product, sum_of

HALF = Fraction(1, 2)
NOUGHT = sum_of()


class Numbers(unittest.TestCase):
    def assert_right(self, one, low, high):
        told = numbers(one, end(low), end(high))
        self.assertIs(type(told), list)
        self.assertTrue(all(model.is_pair(number) for number in told))
        self.assertEqual(len(told), stretchlists.degree(one) + 1)
        self.assertTrue(stretchlists.come_to(one, end(low), end(high), told))
        self.assertEqual(told, stretchlists.numbers_in(one, end(low), end(high)))
        return told

    def test_written_out(self):
        square = sum_of(0, 0, 1)
        self.assertEqual(numbers(square, (0, 1), (1, 1)), [(0, 1), (0, 1), (1, 1)])
        self.assertEqual(numbers(square, (-1, 1), (1, 1)), [(1, 1), (-1, 1), (1, 1)])
        self.assertEqual(numbers(square, (2, 1), (3, 1)), [(4, 1), (6, 1), (9, 1)])
        self.assertEqual(numbers(square, (2, 1), None), [(4, 1), (4, 1), (1, 1)])
        self.assertEqual(numbers(square, None, (2, 1)), [(4, 1), (-4, 1), (1, 1)])
        self.assertEqual(numbers(sum_of(0, 1), (1, 2), (5, 7)), [(1, 2), (5, 7)])
        self.assertEqual(numbers(sum_of(0, 0, 0, 1), None, (0, 1)), [(0, 1), (0, 1), (0, 1), (-1, 1)])

    def test_numbers_alone(self):
        for low, high in stretchlists.STRETCHES[:-1]:
            self.assertEqual(numbers(NOUGHT, end(low), end(high)), [(0, 1)])
            for number in (1, -1, Fraction(3, 7), -10**300, Fraction(1, 10**300)):
                self.assertEqual(self.assert_right(sum_of(number), low, high), [model.pair(number)])

    def test_all_degrees(self):
        rolls = model.dice(160)
        for most in range(9):
            for low, high in stretchlists.STRETCHES[:-1]:
                self.assert_right(stretchlists.any_of_degree(rolls, most), low, high)
                self.assert_right(sum_of(*[0] * most, -3), low, high)
            for turn in range(12):
                self.assert_right(stretchlists.any_of_degree(rolls, most), *stretchlists.any_stretch(rolls))

    def test_noughts_at_the_end_stand(self):
        one = product(sum_of(1, -1), sum_of(1, -1), sum_of(1, -1))
        self.assertEqual(numbers(one, (0, 1), (1, 1)), [(1, 1), (0, 1), (0, 1), (0, 1)])
        self.assertEqual(numbers(one, None, (1, 1)), [(0, 1), (0, 1), (0, 1), (1, 1)])
        self.assertEqual(numbers(one, (1, 1), None), [(0, 1), (0, 1), (0, 1), (-1, 1)])
        self.assertEqual(numbers(sum_of(0, 0, 1), (-1, 1), (0, 1)), [(1, 1), (0, 1), (0, 1)])

    def test_long_fractions(self):
        rolls = model.dice(161)
        for most in (0, 1, 2, 5, 8):
            one = stretchlists.any_of_degree(rolls, most, long=True)
            for low, high in ((-1, HALF), (HALF, None), (None, -HALF)):
                self.assert_right(one, low, high)
            for turn in range(2):
                self.assert_right(stretchlists.any_of_degree(rolls, most), *stretchlists.any_stretch(rolls, long=True))
        low, high = (Fraction(rolls.randint(1, 10**349), rolls.randint(1, 10**349)) + shift for shift in (0, 10**340))
        for ends in ((low, high), (low, None), (None, high)):
            self.assert_right(stretchlists.any_of_degree(rolls, 8, long=True), *ends)

    def test_by_name(self):
        self.assertEqual(numbers(one=sum_of(0, 1), low=(1, 2), high=None), [(1, 2), (1, 1)])
        self.assertEqual(numbers(high=(1, 1), low=(0, 1), one=sum_of(0, 1)), [(0, 1), (1, 1)])


def with_numbers(some, at, change):
    """The pieces with one piece's numbers changed."""
    low, high, row = some[at]
    return some[:at] + [(low, high, change(list(row)))] + some[at + 1:]


def shifted(row, at, by):
    return row[:at] + [model.pair(Fraction(*row[at]) + by)] + row[at + 1:]


def other_numbers(some):
    """Pieces with wrong numbers."""
    found = []
    for at, (low, high, row) in enumerate(some):
        for place in range(len(row)):
            for by in (Fraction(1, 10**30), Fraction(-1, 10**30), 1):
                found.append(with_numbers(some, at, lambda told: shifted(told, place, by)))
            found.append(with_numbers(some, at, lambda told: told[:place] + told[place + 1:]))
        found.append(with_numbers(some, at, lambda told: told + [(0, 1)]))
        found.append(with_numbers(some, at, lambda told: told + [(1, 1)]))
        found.append(with_numbers(some, at, lambda told: [(0, 1)] + told))
        found.append(with_numbers(some, at, lambda told: []))
    return found


def other_lists(some):
    """Pieces of other lists: left out, twice, turned about, none at all."""
    found = [[], some + some[-1:], some[:1] + some, some + some]
    for at in range(len(some)):
        found += [some[:at] + some[at + 1:], some[:at] + some[at:at + 1] + some[at:]]
    if len(some) > 1:
        found += [some[::-1], some[1:] + some[:1]]
    return found


def other_ends(one, some):
    """Pieces with other ends, the numbers being right ones there where there are any."""
    found = []
    for at, (low, high, row) in enumerate(some):
        for first, last in ((moved(low, TINY), high), (low, moved(high, -TINY)), (moved(low, -TINY), high),
                            (low, moved(high, TINY)), (high, low), (None, high), (low, None), (low, low), (high, high),
                            (None, None)):
            if (first, last) == (low, high):
                continue
            right = stretchlists.numbers_in(one, first, last) if (first, last) != (None, None) and first != last else row
            found += [some[:at] + [(first, last, right)] + some[at + 1:], some[:at] + [(first, last, row)] + some[at + 1:]]
    return found


TINY = Fraction(1, 10**9)


def moved(place, by):
    return None if place is None else model.pair(Fraction(*place) + by)


class Pieces(unittest.TestCase):
    def assert_told(self, wanted, one, low, high, some):
        before = copy.deepcopy(some)
        told = are_pieces(one, low, high, some)
        self.assertIs(told, wanted)
        self.assertIs(stretchlists.right_pieces(one, low, high, before), wanted)
        self.assertEqual(some, before)

    def right_ones(self):
        """Sums with their places, from the first to the last, between which their pieces bear them out."""
        up = sum_of(1, 1, 2, 1, 1)
        valley = sum_of(1, 0, 1)
        yield up, (0, 1)
        yield up, (0, None)
        yield up, (0, HALF, 3, None)
        yield up, (Fraction(1, 3), Fraction(2, 5), Fraction(7, 3))
        yield valley, (None, 0, None)
        yield valley, (None, 0)
        yield valley, (None, -5, Fraction(-1, 7), 0)
        yield valley, (None, -2, Fraction(-1, 3), Fraction(1, 3), 2, None)
        yield valley, (-1, 0, 1)
        yield sum_of(0, 1), (0, Fraction(1, 10**300), 10**300, None)
        yield sum_of(3, -1), (None, -10**300, 3)
        yield product(sum_of(0, 1), sum_of(1, -1)), (0, 1)
        yield product(sum_of(0, 1), sum_of(1, -1), valley), (0, Fraction(1, 4), HALF, 1)
        for number in (0, 1, Fraction(1, 7)):
            yield sum_of(number), (-1, 1)
            yield sum_of(number), (None, HALF, None)
            yield sum_of(number), (None, 0, Fraction(1, 3), None)
        yield product(*[sum_of(1, 1)] * 8), (-1, 0, None)
        yield product(*[sum_of(1, 0, 1)] * 4), (None, 0, None)

    def test_right(self):
        for one, places in self.right_ones():
            self.assert_told(True, one, end(places[0]), end(places[-1]), cut_pieces(one, *places))

    def test_otherwise(self):
        for one, places in self.right_ones():
            low, high = end(places[0]), end(places[-1])
            some = cut_pieces(one, *places)
            for wrong in other_numbers(some) + other_lists(some) + other_ends(one, some):
                self.assert_told(False, one, low, high, wrong)

    def test_another_sum_or_stretch(self):
        for one, places in self.right_ones():
            some = cut_pieces(one, *places)
            low, high = end(places[0]), end(places[-1])
            for other in (model.total(1, one, sum_of(TINY)), model.total(1, one, sum_of(0, 1)), product(one, sum_of(0, 1))):
                if other != one:
                    self.assert_told(False, other, low, high, some)
            for first, last in ((moved(low, TINY), high), (low, moved(high, -TINY)), (moved(low, -1), moved(high, 1))):
                if (first, last) != (low, high):
                    self.assert_told(False, one, first, last, some)
            if (low, high) != (None, None):
                self.assert_told(False, one, None, None, some)

    def test_below_nought_though_right(self):
        wide = cut_pieces(sum_of(1, 0, 1), -2, 2)
        self.assertEqual(wide[0][2], [(5, 1), (-3, 1), (5, 1)])
        self.assert_told(False, sum_of(1, 0, 1), (-2, 1), (2, 1), wide)
        self.assert_told(False, sum_of(1, 0, 1), None, (1, 1), cut_pieces(sum_of(1, 0, 1), None, 1))
        self.assert_told(False, sum_of(1, 0, 1), (-1, 1), None, cut_pieces(sum_of(1, 0, 1), -1, None))
        self.assert_told(False, sum_of(1, 0, 1), None, None, cut_pieces(sum_of(1, 0, 1), None, -1, 2, None))
        self.assert_told(False, sum_of(-1), (0, 1), (1, 1), cut_pieces(sum_of(-1), 0, 1))
        self.assert_told(False, sum_of(-TINY), None, None, cut_pieces(sum_of(-TINY), None, 0, None))

    def test_gaps_and_overlaps(self):
        up = sum_of(1, 1, 1)
        for first, second in ((HALF, Fraction(2, 3)), (Fraction(2, 3), HALF), (HALF, HALF + TINY), (HALF + TINY, HALF)):
            some = cut_pieces(up, 0, first) + cut_pieces(up, second, 1)
            self.assert_told(False, up, (0, 1), (1, 1), some)
        self.assert_told(False, up, (0, 1), (1, 1), cut_pieces(up, 0, HALF) + cut_pieces(up, HALF, 1)[::-1] * 2)

    def test_low_not_less_than_high(self):
        up = sum_of(1, 1)
        there_and_back = cut_pieces(up, 0, 2, 1)
        self.assert_told(False, up, (0, 1), (1, 1), there_and_back)
        self.assert_told(False, sum_of(2), (0, 1), (1, 1), [((0, 1), (0, 1), [(2, 1)]), ((0, 1), (1, 1), [(2, 1)])])
        self.assert_told(False, sum_of(0), (0, 1), (1, 1), [((0, 1), (1, 1), [(0, 1)]), ((1, 1), (1, 1), [(0, 1)])])

    def test_no_end_between_and_none_at_all(self):
        for number in (0, 2):
            row = [model.pair(number)]
            one = sum_of(number)
            self.assert_told(False, one, None, None, [(None, None, row)])
            self.assert_told(False, one, (0, 1), (1, 1), [((0, 1), None, row), (None, (1, 1), row)])
            self.assert_told(False, one, None, None, [(None, (0, 1), row), ((0, 1), None, row), (None, None, row)])
            self.assert_told(False, one, None, None, [(None, (0, 1), row), ((0, 1), None, row), (None, (0, 1), row), ((0, 1), None, row)])
            self.assert_told(True, one, None, None, [(None, (0, 1), row), ((0, 1), None, row)])
            for stretch in stretchlists.STRETCHES:
                self.assert_told(False, one, *ends_of(stretch), [])

    def test_whatever_comes(self):
        rolls = model.dice(170)
        counts = {True: 0, False: 0}
        for turn in range(250):
            one = stretchlists.any_of_degree(rolls, turn % 9)
            if turn % 3:
                one = model.total(1, one, model.constant(1, 40), sum_of(0, 0, 9, 0, 9))
            low, high = stretchlists.any_stretch(rolls)
            between = sorted({model.any_number(rolls) for cut in range(turn % 4)})
            places = [low] + [cut for cut in between if (low is None or low < cut) and (high is None or cut < high)] + [high]
            some = cut_pieces(one, *places)
            wanted = all(number[0] >= 0 for first, last, row in some for number in row)
            counts[wanted] += 1
            self.assert_told(wanted, one, end(low), end(high), some)
        self.assertGreater(min(counts.values()), 40)

    def test_by_name(self):
        some = cut_pieces(sum_of(0, 1), 0, None)
        self.assertIs(are_pieces(one=sum_of(0, 1), low=(0, 1), high=None, some=some), True)
        self.assertIs(are_pieces(some=[], high=None, low=(0, 1), one=sum_of(0, 1)), False)


if __name__ == "__main__":
    unittest.main()
