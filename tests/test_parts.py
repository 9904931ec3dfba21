import unittest
from fractions import Fraction

import model
from lowwater.divisors import common
from lowwater.errors import LowwaterError, NoQuotient
from lowwater.parts import parts, split
from test_divisors import NOUGHT, any_of_degree, degree, numbers_of, product, rest_of, sum_of


def slope(one):
    table = {(power - 1,): power * number for (power,), number in model.table_of(one).items() if power}
    return model.made(1, table)


def nothing_in_common(one, other):
    """Whether only numbers divide both, by a division chain of the test's own."""
    first, second = numbers_of(one), numbers_of(other)
    while second:
        first, second = second, rest_of(first, second)
    return len(first) == 1


# Sums of which nothing but numbers divides two, or one and its slope.
PRIMES = (
    sum_of(-1, 1), sum_of(Fraction(1, 2), 1), sum_of(0, 1), sum_of(1, 0, 1), sum_of(-2, 0, 1), sum_of(Fraction(2, 3), -1, 1),
    sum_of(-3, 0, 0, 1), sum_of(1, 1, 0, 0, 1), sum_of(Fraction(-7, 5), 1),
)


def made_of(number, *chosen):
    """The number and the parts, each as often as told, multiplied."""
    return product(sum_of(number), *[part for part, often in chosen for turn in range(often)])


class Parts(unittest.TestCase):
    def assert_right(self, one):
        told = parts(one)
        self.assertIs(type(told), tuple)
        number, found = told
        self.assertTrue(model.is_pair(number))
        self.assertIs(type(found), list)
        often = [times for part, times in found]
        self.assertTrue(all(type(times) is int and times >= 1 for times in often))
        self.assertEqual(often, sorted(set(often)))
        for at, share in enumerate(found):
            part, times = share
            self.assertIs(type(share), tuple)
            self.assertTrue(model.is_made(part, 1) and degree(part) >= 1 and part[1][-1][1] == (1, 1))
            self.assertTrue(nothing_in_common(part, slope(part)))
            for other, more in found[:at]:
                self.assertTrue(nothing_in_common(part, other))
        self.assertEqual(made_of(Fraction(*number), *found), one)
        self.assert_split(one, number, found)
        return told

    def assert_split(self, one, number, found):
        told = split(one)
        self.assertIs(type(told), tuple)
        root, rest = told
        self.assertEqual(root, made_of(1, *[(part, times // 2) for part, times in found]))
        self.assertEqual(rest, made_of(Fraction(*number), *[(part, times % 2) for part, times in found]))
        self.assertEqual(product(root, root, rest), one)

    def test_numbers_alone(self):
        for number in (1, -1, Fraction(3, 7), Fraction(-10**299, 7), 10**299):
            self.assertEqual(self.assert_right(sum_of(number)), (model.pair(number), []))
            self.assertEqual(split(sum_of(number)), (sum_of(1), sum_of(number)))

    def test_one_part(self):
        for prime in PRIMES:
            for often in range(1, 8 // degree(prime) + 1):
                for number in (1, -1, Fraction(-2, 9), 10**200):
                    told = self.assert_right(made_of(number, (prime, often)))
                    self.assertEqual(told, (model.pair(number), [(prime, often)]))

    def test_several_parts(self):
        rolls = model.dice(150)
        for turn in range(150):
            chosen, left = {}, 8
            for prime in rolls.sample(PRIMES, 4):
                often = rolls.randint(1, 8)
                if often * degree(prime) <= left:
                    left -= often * degree(prime)
                    chosen[often] = product(chosen.get(often, sum_of(1)), prime)
            number = model.any_number(rolls) or Fraction(-1)
            wanted = [(chosen[often], often) for often in sorted(chosen)]
            told = self.assert_right(made_of(number, *[(part, often) for often, part in chosen.items()]))
            self.assertEqual(told, (model.pair(number), wanted))

    def test_unlike_times(self):
        first, second, third = PRIMES[:3]
        for one, other in ((1, 7), (2, 6), (3, 5), (4, 4), (7, 1), (6, 1), (2, 3)):
            told = self.assert_right(made_of(-1, (first, one), (second, other)))
            wanted = [(product(first, second), one)] if one == other else sorted([(first, one), (second, other)], key=lambda row: row[1])
            self.assertEqual(told[1], wanted)
        told = self.assert_right(made_of(5, (first, 4), (second, 1), (third, 3)))
        self.assertEqual(told, ((5, 1), [(second, 1), (third, 3), (first, 4)]))
        told = self.assert_right(made_of(5, (first, 5), (second, 1), (third, 2)))
        self.assertEqual(told, ((5, 1), [(second, 1), (third, 2), (first, 5)]))

    def test_whatever_comes(self):
        rolls = model.dice(151)
        for turn in range(120):
            self.assert_right(any_of_degree(rolls, turn % 9))
            self.assert_right(product(*[any_of_degree(rolls, rolls.randint(0, 2)) for factor in range(4)]))
            half = any_of_degree(rolls, turn % 4)
            self.assert_right(product(half, half, any_of_degree(rolls, turn % 3)))

    def test_long_fractions(self):
        rolls = model.dice(152)
        for most in (1, 2, 4):
            self.assert_right(any_of_degree(rolls, most, long=True))
        for figures, often in ((35, 8), (60, 4), (100, 2), (140, 2), (300, 1)):
            part = sum_of(Fraction(rolls.randint(1, 10**figures), 10**figures + 9), 1)
            other = sum_of(Fraction(rolls.randint(1, 10**figures), 10**figures + 7), 1)
            number = Fraction(-10**300 + 1, 10**299 + 3)
            self.assertEqual(self.assert_right(made_of(number, (part, often))), (model.pair(number), [(part, often)]))
            if often < 8:
                told = self.assert_right(made_of(number, (part, often), (other, often + 1)))
                self.assertEqual(told[1], [(part, often), (other, often + 1)])

    def test_no_quotient(self):
        for deed in (parts, split):
            for turn in range(2):
                with self.assertRaises(NoQuotient) as caught:
                    deed(NOUGHT)
                self.assertIsInstance(caught.exception, LowwaterError)
                deed(sum_of(0, 1))
        self.assertEqual(common(sum_of(0, 1), NOUGHT)[0], sum_of(0, 1))

    def test_by_name(self):
        self.assertEqual(parts(one=sum_of(3)), ((3, 1), []))
        self.assertEqual(split(one=sum_of(3)), (sum_of(1), sum_of(3)))
        for deed in (parts, split):
            with self.assertRaises(NoQuotient):
                deed(one=NOUGHT)


if __name__ == "__main__":
    unittest.main()
