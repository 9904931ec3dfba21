import unittest
from fractions import Fraction

import model
from lowwater.divisors import common, quotient
from lowwater.errors import LowwaterError, NoQuotient

NOUGHT = (1, ())


def sum_of(*numbers):
    """The sum of one letter with these numbers from the power 0 on."""
    return model.made(1, {(power,): Fraction(number) for power, number in enumerate(numbers)})


def degree(one):
    return one[1][-1][0][0] if one[1] else 0


def any_of_degree(rolls, most, long=False):
    """A sum of one letter of just this degree; -1 is the sum 0."""
    if most < 0:
        return NOUGHT
    numbers = [model.any_number(rolls, long) if rolls.random() < 0.8 else 0 for power in range(most)]
    return sum_of(*numbers, model.any_number(rolls, long) or 1)


def product(*some):
    """Some sums multiplied out."""
    table = {(0,): Fraction(1)}
    for one in some:
        table = model.multiplied(table, model.table_of(one))
    return model.made(1, table)


def numbers_of(one):
    """A sum's Fractions from the power 0 on; none of the sum 0."""
    return [model.table_of(one).get((power,), Fraction(0)) for power in range(degree(one) + 1)] if one[1] else []


def rest_of(first, second):
    """The Fractions that are left of the first ones, divided by the second ones, without noughts at the end."""
    rest = list(first)
    while len(rest) >= len(second):
        factor = rest[-1] / second[-1]
        for at in range(len(second)):
            rest[at - len(second)] -= factor * second[at]
        rest.pop()
    while rest and rest[-1] == 0:
        rest.pop()
    return rest


class Quotient(unittest.TestCase):
    def assert_right(self, one, other, told):
        self.assertIs(type(told), tuple)
        found, rest = told
        self.assertTrue(model.is_made(found, 1) and model.is_made(rest, 1))
        self.assertEqual(model.total(1, product(other, found), rest), one)
        self.assertTrue(rest == NOUGHT or degree(rest) < degree(other))

    def test_all_degrees(self):
        rolls = model.dice(140)
        for high in range(-1, 11):
            for low in range(11):
                for long in (False, False, True) if (high + low) % 5 == 0 else (False, False):
                    one, other = any_of_degree(rolls, high, long), any_of_degree(rolls, low, long)
                    self.assert_right(one, other, quotient(one, other))

    def test_without_a_rest(self):
        rolls = model.dice(141)
        for low in range(11):
            for high in range(11 - low):
                one, other = any_of_degree(rolls, high), any_of_degree(rolls, low)
                self.assertEqual(quotient(product(one, other), other), (one, NOUGHT))
                self.assertEqual(quotient(other, other), (sum_of(1), NOUGHT))

    def test_with_a_rest(self):
        rolls = model.dice(142)
        for low in range(1, 11):
            for high in range(11 - low):
                found, other, rest = (any_of_degree(rolls, most) for most in (high, low, rolls.randint(-1, low - 1)))
                self.assertEqual(quotient(model.total(1, product(found, other), rest), other), (found, rest))

    def test_plain_ones(self):
        for one, other, wanted in (
            (NOUGHT, sum_of(0, 1), (NOUGHT, NOUGHT)), (NOUGHT, sum_of(5), (NOUGHT, NOUGHT)),
            (sum_of(7), sum_of(-2), (sum_of(Fraction(-7, 2)), NOUGHT)), (sum_of(7), sum_of(0, 3), (NOUGHT, sum_of(7))),
            (sum_of(1, 2, 3), sum_of(4), (sum_of(Fraction(1, 4), Fraction(1, 2), Fraction(3, 4)), NOUGHT)),
            (sum_of(-1, 0, 0, 1), sum_of(-1, 1), (sum_of(1, 1, 1), NOUGHT)),
            (sum_of(1, 0, 0, 1), sum_of(-1, 1), (sum_of(1, 1, 1), sum_of(2))),
            (sum_of(*[0] * 10, 1), sum_of(0, 0, 0, 2), (sum_of(*[0] * 7, Fraction(1, 2)), NOUGHT)),
        ):
            self.assertEqual(quotient(one, other), wanted)

    def test_no_quotient(self):
        for one in (NOUGHT, sum_of(1), sum_of(0, 1), any_of_degree(model.dice(1), 10)):
            for turn in range(2):
                with self.assertRaises(NoQuotient) as caught:
                    quotient(one, NOUGHT)
                self.assertIsInstance(caught.exception, LowwaterError)
            self.assertEqual(quotient(one, sum_of(1)), (one, NOUGHT))

    def test_by_name(self):
        self.assertEqual(quotient(other=sum_of(2), one=sum_of(6)), (sum_of(3), NOUGHT))
        with self.assertRaises(NoQuotient):
            quotient(other=NOUGHT, one=sum_of(6))


class Common(unittest.TestCase):
    def assert_right(self, one, other, told):
        self.assertIs(type(told), tuple)
        self.assertEqual(len(told), 3)
        self.assertTrue(all(model.is_made(part, 1) for part in told))
        found, first, second = told
        self.assertEqual(found[1][-1][1], (1, 1))
        # What both factors with the sums come to is divided by every divisor of both; so this one is the greatest.
        self.assertEqual(model.total(1, product(first, one), product(second, other)), found)
        self.assertEqual(rest_of(numbers_of(one), numbers_of(found)), [])
        self.assertEqual(rest_of(numbers_of(other), numbers_of(found)), [])

    def test_all_degrees(self):
        rolls = model.dice(143)
        for high in range(-1, 9):
            for low in range(-1, 9):
                for turn in range(3):
                    one, other = any_of_degree(rolls, high), any_of_degree(rolls, low)
                    if one != NOUGHT or other != NOUGHT:
                        self.assert_right(one, other, common(one, other))

    def test_something_in_common(self):
        rolls = model.dice(144)
        for most in range(1, 9):
            for high in range(9 - most):
                for low in range(9 - most):
                    shared = any_of_degree(rolls, most)
                    one, other = (product(shared, any_of_degree(rolls, more)) for more in (high, low))
                    told = common(one, other)
                    self.assert_right(one, other, told)
                    self.assertGreaterEqual(degree(told[0]), most)
                    self.assertEqual(rest_of(numbers_of(told[0]), numbers_of(shared)), [])

    def test_known_ones(self):
        first, second, third = sum_of(-1, 1), sum_of(Fraction(1, 2), 1), sum_of(1, 0, 1)
        for one, other, wanted in (
            (product(first, second), product(first, third), first), (product(first, first, second), product(first, first), product(first, first)),
            (first, second, sum_of(1)), (third, third, third), (product(third, sum_of(-7)), product(third, third), third),
            (first, sum_of(Fraction(-3, 5)), sum_of(1)), (sum_of(4), sum_of(6), sum_of(1)),
            (sum_of(2, 4), NOUGHT, second), (NOUGHT, sum_of(2, 4), second), (NOUGHT, sum_of(-5), sum_of(1)), (sum_of(-5), NOUGHT, sum_of(1)),
            (sum_of(*[0] * 8, 3), sum_of(*[0] * 5, 2), sum_of(*[0] * 5, 1)),
            (sum_of(1, *[0] * 7, 1), sum_of(0, 0, 0, 0, 8), sum_of(1)), (sum_of(-1, *[0] * 7, 1), sum_of(-1, *[0] * 5, 1), sum_of(-1, 0, 1)),
        ):
            told = common(one, other)
            self.assertEqual(told[0], wanted)
            self.assert_right(one, other, told)
            self.assert_right(other, one, common(other, one))

    def test_long_fractions(self):
        rolls = model.dice(145)
        for high, low in ((1, 1), (3, 2), (0, 4), (4, -1), (2, 2)):
            one, other = any_of_degree(rolls, high, long=True), any_of_degree(rolls, low, long=True)
            self.assert_right(one, other, common(one, other))
        shared = sum_of(Fraction(10**90 + 1, 10**91 + 3), Fraction(7, 10**90), 1)
        one, other = product(shared, sum_of(Fraction(1, 10**80), 1)), product(shared, shared, sum_of(3, 10**80))
        self.assertEqual(common(one, other)[0], shared)
        self.assert_right(one, other, common(one, other))

    def test_no_quotient(self):
        for turn in range(2):
            with self.assertRaises(NoQuotient) as caught:
                common(NOUGHT, NOUGHT)
            self.assertIsInstance(caught.exception, LowwaterError)
            self.assertEqual(common(sum_of(2), NOUGHT)[0], sum_of(1))

    def test_by_name(self):
        self.assertEqual(common(other=NOUGHT, one=sum_of(0, 2))[0], sum_of(0, 1))
        with self.assertRaises(NoQuotient):
            common(other=NOUGHT, one=NOUGHT)


if __name__ == "__main__":
    unittest.main()
