import math
import unittest
from fractions import Fraction

import model
from lowwater.errors import NoQuotient
from lowwater.fractions import added, beside, divided, is_fraction, less, multiplied

LONG = 10**299 + 7


class IsFraction(unittest.TestCase):
    def assert_all(self, wanted, things):
        for thing in things:
            with self.subTest(thing):
                self.assertIs(is_fraction(thing), wanted)

    def test_lowest_terms(self):
        self.assert_all(True, [(0, 1), (1, 1), (-1, 1), (1, 2), (-1, 2), (7, 3), (-7, 3), (8, 9), (5, 1), (-12, 35)])

    def test_long(self):
        self.assert_all(True, [(LONG, LONG + 1), (-LONG, LONG + 1), (LONG, 1), (1, LONG), (10**300 - 1, 10**300 - 2)])
        self.assert_all(False, [(LONG * 3, 3 * (LONG + 1)), (LONG, LONG), (-2, 2 * LONG), (0, LONG), (LONG, -LONG - 1)])

    def test_not_in_lowest_terms(self):
        self.assert_all(False, [(0, 2), (2, 2), (2, 4), (-2, 4), (6, 9), (-6, 3), (15, 35)])

    def test_bottom_not_from_one_on(self):
        self.assert_all(False, [(0, 0), (1, 0), (2, 0), (-1, 0), (1, -1), (1, -2), (-1, -2), (0, -1)])

    def test_other_lengths_and_lists(self):
        self.assert_all(False, [(), (1,), (1, 2, 3), (1, 2, 1), (1, 1, 1), [1, 2], [], [0, 1], [(1, 2)], ((1, 2),)])

    def test_no_whole_numbers(self):
        for thing in (True, False, "1", "", None, (1,), [1], (), [], 1.0):
            self.assert_all(False, [(thing, 1), (1, thing), (thing, thing), (thing, 2), (0, thing)])

    def test_other_kinds(self):
        self.assert_all(False, [None, True, False, 0, 1, -1, LONG, "", "12", "1/2", 1.5, {}, {1: 2}, set(), b"12", object()])
        deep = (1, 2)
        for _ in range(39):
            deep = (deep, [deep])[:1]
        self.assert_all(False, [deep, [deep], tuple(range(19999)), [None] * 19999])

    def test_every_small_pair(self):
        for top in range(-30, 31):
            for bottom in range(-5, 31):
                wanted = bottom >= 1 and math.gcd(top, bottom) == 1
                self.assertIs(is_fraction((top, bottom)), wanted)

    def test_by_name(self):
        self.assertIs(is_fraction(thing=(1, 2)), True)


def numbers():
    rolls = model.dice(4)
    small = [Fraction(top, bottom) for top in range(-4, 5) for bottom in (1, 2, 3, 4, 6)]
    long = [model.any_number(rolls, long=True) for _ in range(8)]
    near = [Fraction(LONG, LONG + 1), Fraction(LONG + 1, LONG), Fraction(-LONG, LONG + 1), Fraction(1, LONG), Fraction(LONG)]
    return small + long + near


class Reckoning(unittest.TestCase):
    def assert_told(self, told, wanted):
        self.assertEqual(told, model.pair(wanted))
        self.assertIsInstance(told, tuple)
        self.assertEqual([type(part) for part in told], [int, int])
        self.assertIs(is_fraction(told), True)

    def test_all_pairs(self):
        for one in numbers():
            for other in numbers():
                first, second = model.pair(one), model.pair(other)
                self.assert_told(added(first, second), one + other)
                self.assert_told(less(first, second), one - other)
                self.assert_told(multiplied(first, second), one * other)
                if other != 0:
                    self.assert_told(divided(first, second), one / other)
                self.assertEqual(beside(first, second), (one > other) - (one < other))

    def test_plain_ones(self):
        self.assertEqual(added((1, 2), (1, 2)), (1, 1))
        self.assertEqual(added((1, 6), (1, 10)), (4, 15))
        self.assertEqual(added((1, 2), (-1, 2)), (0, 1))
        self.assertEqual(less((1, 6), (2, 3)), (-1, 2))
        self.assertEqual(less((5, 7), (5, 7)), (0, 1))
        self.assertEqual(multiplied((2, 3), (3, 2)), (1, 1))
        self.assertEqual(multiplied((-2, 3), (0, 1)), (0, 1))
        self.assertEqual(divided((0, 1), (-2, 3)), (0, 1))
        self.assertEqual(divided((1, 2), (-3, 4)), (-2, 3))
        self.assertEqual(divided((-5, 7), (-5, 7)), (1, 1))

    def test_very_long_ones(self):
        # Thousands of figures, with a shared divisor that is short, long, or nearly all there is.
        rolls = model.dice(5)
        for figures in (2000, 2500, 6000):
            for shared in (1, 7, 10**40 + 1, 10**2000 + 9, 10**(figures - 3) + 1):
                one = rolls.randint(-10**figures, 10**figures) * shared
                other = rolls.randint(1, 10**figures) * shared
                for top, bottom in ((one, other), (other, abs(one)), (-other, abs(one)), (one, shared), (shared, other)):
                    self.assert_told(divided((top, 1), (bottom, 1)), Fraction(top, bottom))
                self.assertIs(is_fraction((one, other)), False if shared > 1 else math.gcd(one, other) == 1)
                first, second = Fraction(one, other + shared), Fraction(other, abs(one) + shared)
                self.assert_told(added(model.pair(first), model.pair(second)), first + second)
                self.assert_told(multiplied(model.pair(first), model.pair(second)), first * second)

    def test_very_long_ones_of_one_chain(self):
        # Neighbours of Fibonacci's row have the longest chain of quotients, all of them 1.
        one, other = 1, 1
        for turn in range(20000):
            one, other = one + other, one
        for top, bottom in ((one, other), (one * one, other * one), (one * 5 + other, one), (other, one)):
            self.assert_told(divided((top, 1), (bottom, 1)), Fraction(top, bottom))

    def test_no_quotient(self):
        for one in ((0, 1), (1, 1), (-1, 2), (LONG, 2)):
            with self.assertRaises(NoQuotient):
                divided(one, (0, 1))

    def test_beside_tells_whole_numbers(self):
        for other, wanted in (((1, 2), -1), ((1, 3), 0), ((-1, 3), 1), ((0, 1), 1), ((LONG, 1), -1)):
            told = beside((1, 3), other)
            self.assertEqual((told, type(told)), (wanted, int))
        self.assertEqual(beside((LONG, LONG + 1), (LONG + 1, LONG + 2)), -1)
        self.assertEqual(beside((-LONG, LONG + 1), (-LONG - 1, LONG + 2)), 1)

    def test_by_name(self):
        self.assertEqual(added(other=(1, 3), one=(1, 2)), (5, 6))
        self.assertEqual(less(other=(1, 3), one=(1, 2)), (1, 6))
        self.assertEqual(multiplied(other=(1, 3), one=(1, 2)), (1, 6))
        self.assertEqual(divided(other=(1, 3), one=(1, 2)), (3, 2))
        self.assertEqual(beside(other=(1, 3), one=(1, 2)), 1)


if __name__ == "__main__":
    unittest.main()
