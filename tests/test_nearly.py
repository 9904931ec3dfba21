"""Point 19: how low a sum of one letter comes in a stretch, to a gap."""

import copy
import unittest
from fractions import Fraction

import model
import stretchlists
from lowwater.stretches import is_nearly, nearly
from stretchlists import cut_pieces, ends_of, product, sum_of
from test_stretches import pair_at, root_at

HALF = Fraction(1, 2)
NOUGHT = sum_of()
GAPS = (10**40, 3, Fraction(1, 7), Fraction(1, 10**6), Fraction(1, 10**40))


def right_nearly(one, low, high, gap, told):
    """Whether a tuple is right by point 19."""
    number, spot, some = told
    if not stretchlists.is_within(low, high, spot):
        return False
    if stretchlists.worth(one, spot) > Fraction(*number) + Fraction(*gap):
        return False
    return stretchlists.right_pieces(stretchlists.less_number(one, Fraction(*number)), low, high, some)


class Nearly(unittest.TestCase):
    def assert_right(self, one, low, high, gap):
        low, high, gap = model.pair(low), model.pair(high), model.pair(gap)
        told = nearly(one, low, high, gap)
        self.assertIs(type(told), tuple)
        number, spot, pieces = told
        self.assertTrue(model.is_pair(number) and type(spot) is tuple and model.is_pair(spot[0]) and type(pieces) is list)
        self.assertTrue(all(model.is_pair(share) for piece in pieces for share in piece[2]))
        self.assertTrue(right_nearly(one, low, high, gap, told))
        self.assertIs(is_nearly(one, low, high, gap, told), True)
        return told

    def test_numbers_alone(self):
        for gap in GAPS:
            for number in (0, 1, Fraction(-2, 3), 10**300, Fraction(-1, 10**300)):
                for stretch in stretchlists.STRETCHES[:4]:
                    self.assert_right(sum_of(number), *stretch, gap)

    def test_known_least_worths(self):
        for gap in GAPS:
            for one, low, high, least in (
                (sum_of(0, 0, 1), -1, 2, 0), (sum_of(0, 0, 1), 1, 2, 1), (sum_of(2, 3), Fraction(-1, 3), 5, 1), (sum_of(0, -3), 0, 5, -15),
                (sum_of(0, -3, 0, 1), 0, 2, -2), (sum_of(0, 0, -2, 0, 1), -3, 2, -1), (root_at(Fraction(1, 3), 6), 0, 1, 0),
                (product(sum_of(-1), root_at(0), root_at(1)), 0, 1, 0), (product(root_at(0), root_at(1)), 0, 1, Fraction(-1, 4)),
                (product(root_at(Fraction(1, 3), 2), root_at(Fraction(2, 3), 4)), 0, 1, 0),
            ):
                number, spot, pieces = self.assert_right(one, low, high, gap)
                self.assertTrue(least - gap <= Fraction(*number) <= least)
                self.assertTrue(least <= stretchlists.worth(one, spot) <= least + gap)

    def test_all_degrees(self):
        rolls = model.dice(190)
        for turn in range(120):
            one = stretchlists.any_of_degree(rolls, turn % 7)
            low, high = sorted(rolls.sample([Fraction(top, 7) for top in range(-30, 31)], 2))
            for gap in (GAPS[turn % 5], Fraction(rolls.randint(1, 99), rolls.randint(1, 10**6))):
                self.assert_right(one, low, high, gap)

    def test_very_small_gaps(self):
        small = Fraction(1, 10**300)
        for one in (sum_of(1, -3, 0, 1), sum_of(0, -1, 0, 0, 0, 0, 1), root_at(Fraction(1, 3), 6), pair_at(Fraction(1, 7), small),
                    product(pair_at(Fraction(1, 7), small), pair_at(Fraction(6, 7), small)), NOUGHT):
            self.assert_right(one, 0, 1, small)
            self.assert_right(one, Fraction(-1, 10**200), 10**100, small)

    def test_long_fractions(self):
        rolls = model.dice(191)
        for most in (2, 4, 6):
            one = stretchlists.any_of_degree(rolls, most, long=True)
            low, high = sorted((model.any_number(rolls, long=True), model.any_number(rolls, long=True)))
            for gap in (Fraction(1, 10**299), abs(model.any_number(rolls, long=True)), 10**300):
                self.assert_right(one, low, high, gap)

    def test_by_name(self):
        told = nearly(one=sum_of(0, 1), low=(0, 1), high=(1, 1), gap=(1, 2))
        self.assertIs(is_nearly(one=sum_of(0, 1), low=(0, 1), high=(1, 1), gap=(1, 2), told=told), True)
        self.assertIs(is_nearly(told=((0, 1), ((0, 1),), []), gap=(1, 2), high=(1, 1), low=(0, 1), one=sum_of(0, 1)), False)


class IsNearly(unittest.TestCase):
    def assert_told(self, wanted, one, low, high, gap, told):
        before = copy.deepcopy(told)
        self.assertIs(right_nearly(one, low, high, gap, before), wanted)
        self.assertIs(is_nearly(one, low, high, gap, told), wanted)
        self.assertEqual(told, before)

    def made(self, one, number, spot, *places):
        """A tuple with the pieces of the sum less the number between the places."""
        return (model.pair(number), (model.pair(spot),), cut_pieces(stretchlists.less_number(one, number), *places))

    def test_other_right_ones(self):
        valley = sum_of(0, 0, 1)
        ends = ((-1, 1), (1, 1))
        self.assert_told(True, valley, *ends, (1, 2), self.made(valley, 0, 0, -1, 0, 1))
        self.assert_told(True, valley, *ends, (1, 2), self.made(valley, 0, HALF, -1, Fraction(-1, 3), 0, Fraction(1, 9), 1))
        self.assert_told(True, valley, *ends, (1, 4), self.made(valley, 0, Fraction(-1, 2), -1, 0, 1))
        self.assert_told(True, valley, *ends, (1, 2), self.made(valley, Fraction(-1, 4), Fraction(1, 2), -1, 0, 1))
        self.assert_told(True, valley, *ends, (1, 1), self.made(valley, 0, 1, -1, 0, 1))
        self.assert_told(True, valley, *ends, (1, 1), self.made(valley, 0, -1, -1, 0, 1))
        self.assert_told(True, valley, *ends, (2, 1), self.made(valley, -1, 1, -1, 1))
        self.assert_told(True, sum_of(3), *ends, (1, 10**9), self.made(sum_of(3), 3, HALF, -1, 1))
        self.assert_told(True, NOUGHT, *ends, (1, 10**9), self.made(NOUGHT, 0, HALF, -1, 0, 1))

    def test_wrong_ones(self):
        valley = sum_of(0, 0, 1)
        ends = ((-1, 1), (1, 1))
        small = Fraction(1, 10**20)
        cuts = (-1, 0, 1)
        for gap, number, spot in (
            (HALF, small, 0), (HALF, 0, HALF + Fraction(1, 4)), (Fraction(1, 4), 0, HALF + small), (Fraction(1, 4), -small, HALF),
            (HALF, -HALF - small, 0), (HALF, -1, 0), (10, 0, 1 + small), (10, 0, -1 - small), (10, 0, 2), (1 - small, 0, 1),
        ):
            self.assert_told(False, valley, *ends, model.pair(gap), self.made(valley, number, spot, *cuts))
        self.assert_told(False, valley, *ends, (1, 1), self.made(valley, 0, 0, -1, 1))
        self.assert_told(False, valley, *ends, (1, 1), self.made(valley, 0, 0, -1, small, 1))
        self.assert_told(False, valley, *ends, (1, 1), self.made(valley, 0, 0, -1, 0))
        self.assert_told(False, valley, *ends, (1, 1), self.made(valley, 0, 0, -2, 0, 1))
        right = self.made(valley, 0, 0, *cuts)
        self.assert_told(False, valley, *ends, (1, 1), (right[0], right[1], []))
        self.assert_told(False, valley, *ends, (1, 1), (right[0], right[1], right[2][::-1]))
        self.assert_told(False, valley, *ends, (1, 1), (right[0], right[1], right[2][:1]))
        self.assert_told(False, sum_of(0, 0, 2), *ends, (1, 1), right)
        for spot in ((), ((0, 1), (0, 1))):
            self.assert_told(False, valley, *ends, (1, 1), (right[0], spot, right[2]))

    def test_told_ones_a_little_otherwise(self):
        rolls = model.dice(192)
        for turn in range(60):
            one = stretchlists.any_of_degree(rolls, turn % 7)
            low, high = ends_of(sorted(rolls.sample([Fraction(top, 7) for top in range(-30, 31)], 2)))
            gap = model.pair(GAPS[turn % 5])
            number, spot, some = nearly(one, low, high, gap)
            self.assert_told(True, one, low, high, gap, (number, spot, some))
            for by in (Fraction(1, 10**60), Fraction(-1, 10**60), 1, -1):
                other = model.pair(Fraction(*number) + by)
                self.assert_told(False, one, low, high, gap, (other, spot, some))
            for place in (Fraction(*low) - 1, Fraction(*high) + Fraction(1, 10**60)):
                self.assert_told(False, one, low, high, gap, (number, (model.pair(place),), some))
            begin, end, row = some[0]
            wrong = [(begin, end, [model.pair(Fraction(*row[0]) + 1)] + row[1:])] + some[1:]
            for pieces in ([], some[1:], some + some, wrong):
                self.assert_told(False, one, low, high, gap, (number, spot, pieces))
            for place in (low, high, model.pair((Fraction(*low) + Fraction(*high)) / 2)):
                told = (number, (place,), some)
                self.assert_told(right_nearly(one, low, high, gap, told), one, low, high, gap, told)
            rise = stretchlists.worth(one, spot) - Fraction(*number)
            if rise > 0:
                self.assert_told(True, one, low, high, model.pair(rise), (number, spot, some))
                self.assert_told(False, one, low, high, model.pair(rise * Fraction(99, 100)), (number, spot, some))


if __name__ == "__main__":
    unittest.main()
