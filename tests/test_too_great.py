import unittest
from fractions import Fraction

import model
from lowwater.errors import LowwaterError, TooGreat
from lowwater.sums import degree, is_sum, plus, put_in, scaled, slope, times


def monomial(powers, number=1):
    return model.made(len(powers), {powers: Fraction(number)})


def spread(letters, count, most):
    """A sum of four letters of so many terms, in which only the letters named stand."""
    chosen = [powers for powers in model.all_powers(4, most)
              if all(power == 0 or at in letters for at, power in enumerate(powers))]
    return model.made(4, {powers: Fraction(1) for powers in chosen[:count]})


class Case(unittest.TestCase):
    def assert_terms(self, told, count):
        self.assertEqual(len(told[1]), count)
        self.assertIs(is_sum(told), True)

    def assert_refused(self, deed, *handed):
        with self.assertRaises(TooGreat) as caught:
            deed(*handed)
        self.assertIsInstance(caught.exception, LowwaterError)


class PlusTerms(Case):
    def setUp(self):
        self.chosen = model.all_powers(4, 16)
        self.full = model.first_terms(4, 500)

    def part(self, low, high, number=1):
        return model.made(4, {powers: Fraction(number) for powers in self.chosen[low:high]})

    def test_500_and_501(self):
        self.assert_terms(plus(self.part(0, 499), self.part(499, 500)), 500)
        self.assert_terms(plus(self.part(0, 250), self.part(250, 500)), 500)
        self.assert_terms(plus(self.full, self.part(499, 500)), 500)
        self.assert_refused(plus, self.full, self.part(500, 501))
        self.assert_refused(plus, self.part(500, 501), self.full)
        self.assert_refused(plus, self.full, self.part(499, 501))
        self.assert_refused(plus, self.part(0, 250), self.part(250, 501))
        self.assert_refused(plus, self.full, self.part(500, 1000))

    def test_behind_what_cancels_out(self):
        self.assert_terms(plus(self.full, self.part(499, 501, -1)), 500)
        self.assert_terms(plus(self.full, self.part(0, 500, -1)), 0)
        self.assert_terms(plus(self.full, self.part(250, 750, -1)), 500)
        self.assert_refused(plus, self.full, self.part(251, 750, -1))
        self.assert_refused(plus, self.full, self.part(250, 750, -2))

    def test_degree_16_stays(self):
        one = monomial((16, 0, 0, 0))
        self.assertEqual(degree(plus(one, monomial((0, 4, 4, 8)))), 16)


class TimesDegree(Case):
    def test_16_and_17(self):
        self.assertEqual(times(monomial((8,)), monomial((8,))), monomial((16,)))
        self.assertEqual(times(monomial((16,)), monomial((0,))), monomial((16,)))
        self.assert_refused(times, monomial((8,)), monomial((9,)))
        self.assert_refused(times, monomial((16,)), monomial((1,)))
        self.assertEqual(times(monomial((1, 2, 3, 4)), monomial((4, 1, 1, 0))), monomial((5, 3, 4, 4)))
        self.assert_refused(times, monomial((1, 2, 3, 4)), monomial((4, 1, 1, 1)))

    def test_not_the_terms_of_lesser_degree_alone(self):
        one = model.made(2, {(0, 0): 1, (0, 9): 1})
        other = model.made(2, {(0, 0): 1, (8, 0): -1})
        self.assert_refused(times, one, other)
        self.assertEqual(degree(times(one, model.made(2, {(0, 0): 1, (7, 0): -1}))), 16)

    def test_nought_is_never_too_great(self):
        for many in (1, 2, 3, 4):
            high = model.letter_sum(many, 0, 16)
            self.assertEqual(times(high, (many, ())), (many, ()))
            self.assertEqual(times((many, ()), high), (many, ()))


class TimesTerms(Case):
    def test_500_and_501(self):
        self.assert_terms(times(spread((0, 1), 20, 7), spread((2, 3), 25, 8)), 500)
        self.assert_terms(times(monomial((3, 0, 1, 0)), model.first_terms(4, 500, 12)), 500)
        self.assert_refused(times, spread((0,), 3, 2), spread((1, 2, 3), 167, 9))
        self.assert_refused(times, spread((0,), 2, 1), spread((1, 2, 3), 251, 10))
        self.assert_refused(times, model.first_terms(4, 126, 5), model.first_terms(4, 495, 8))

    def test_behind_what_cancels_out(self):
        less_letter = model.made(4, {(0, 0, 0, 0): 1, (1, 0, 0, 0): -1})
        more_letter = model.made(4, {(0, 0, 0, 0): 1, (1, 0, 0, 0): 1})
        rest = spread((1, 2, 3), 250, 10)
        one = times(more_letter, rest)
        self.assert_terms(one, 500)
        # Of 750 unlike powers on the way the 250 in the middle cancel out.
        self.assert_terms(times(less_letter, one), 500)
        self.assert_terms(times(one, less_letter), 500)
        doubled = plus(one, monomial((0, 0, 0, 0)))
        self.assert_terms(doubled, 500)
        self.assert_refused(times, less_letter, doubled)

    def test_many_cancel_out(self):
        rows = spread((0,), 8, 7)
        rest = spread((1, 2, 3), 60, 8)
        less_letter = model.made(4, {(0, 0, 0, 0): 1, (1, 0, 0, 0): -1})
        told = times(less_letter, times(rows, rest))
        self.assertEqual(told, times(model.made(4, {(0, 0, 0, 0): 1, (8, 0, 0, 0): -1}), rest))
        self.assert_terms(told, 120)


class PutInDegree(Case):
    def test_16_and_17(self):
        self.assertEqual(put_in(monomial((16,)), [monomial((0, 1))]), monomial((0, 16)))
        self.assertEqual(put_in(monomial((2,)), [monomial((3, 5))]), monomial((6, 10)))
        self.assertEqual(put_in(monomial((1,)), [monomial((16,))]), monomial((16,)))
        self.assertEqual(put_in(monomial((3, 2)), [monomial((4,)), monomial((2,))]), monomial((16,)))
        self.assertEqual(put_in(monomial((1, 1)), [monomial((7,)), monomial((9,))]), monomial((16,)))
        self.assert_refused(put_in, monomial((1, 1)), [monomial((8,)), monomial((9,))])
        self.assert_refused(put_in, monomial((3, 2)), [monomial((4,)), monomial((3,))])
        self.assert_refused(put_in, monomial((2,)), [monomial((9,))])
        self.assert_refused(put_in, monomial((16,)), [monomial((2,))])
        self.assert_refused(put_in, monomial((1, 1, 1, 2)), [monomial((1,)), monomial((2,)), monomial((4,)), monomial((5,))])

    def test_whatever_cancels_out(self):
        apart = model.made(2, {(2, 0): 1, (0, 2): -1})
        self.assertEqual(put_in(apart, [monomial((8, 0))] * 2), (2, ()))
        self.assert_refused(put_in, apart, [monomial((9, 0))] * 2)
        seventeen = model.made(3, {(1, 1, 0): 1, (0, 1, 1): -1})
        self.assert_refused(put_in, seventeen, [monomial((8,)), monomial((9,)), monomial((8,))])
        self.assertEqual(put_in(seventeen, [monomial((7,)), monomial((9,)), monomial((7,))]), (1, ()))

    def test_beside_a_nought(self):
        self.assertEqual(put_in(monomial((1, 1)), [(1, ()), monomial((16,))]), (1, ()))
        self.assertEqual(put_in(monomial((15, 1)), [(1, ()), monomial((16,))]), (1, ()))
        self.assert_refused(put_in, monomial((1, 2)), [(1, ()), monomial((9,))])
        self.assert_refused(put_in, monomial((2, 1)), [monomial((9,)), (1, ())])

    def test_the_greatest_power_alone_counts_in_what_is_put_in(self):
        other = model.made(1, {(0,): 1, (9,): 1})
        self.assert_refused(put_in, monomial((2,)), [other])
        self.assert_refused(put_in, model.made(1, {(0,): 1, (1,): 1, (2,): 1}), [other])

    def test_numbers_put_in_have_degree_0(self):
        self.assertEqual(put_in(monomial((16,)), [monomial((0, 0), 2)]), monomial((0, 0), 2**16))


class PutInTerms(Case):
    def setUp(self):
        self.product = monomial((1, 1))
        self.both = model.made(2, {(0, 1): 1, (1, 0): 1})

    def test_500_and_501(self):
        self.assert_terms(put_in(self.product, [spread((0, 1), 20, 7), spread((2, 3), 25, 8)]), 500)
        self.assert_refused(put_in, self.product, [spread((0,), 3, 2), spread((1, 2, 3), 167, 9)])
        full = model.first_terms(4, 500)
        past = model.made(4, {model.all_powers(4, 16)[500]: Fraction(1)})
        self.assert_terms(put_in(monomial((1,)), [full]), 500)
        self.assert_terms(put_in(self.both, [full, full]), 500)
        self.assert_refused(put_in, self.both, [full, past])
        self.assert_refused(put_in, self.both, [past, full])

    def test_sums_that_cancel_out(self):
        full = model.first_terms(4, 500)
        chosen = model.all_powers(4, 16)
        other = model.made(4, {powers: Fraction(-1) for powers in chosen[250:750]})
        self.assert_terms(put_in(self.both, [full, other]), 500)
        other = model.made(4, {powers: Fraction(-1) for powers in chosen[251:751]})
        self.assert_terms(put_in(self.both, [full, scaled(full, (-1, 1))]), 0)
        self.assert_refused(put_in, self.both, [full, other])

    def test_products_that_cancel_out(self):
        less_letter = model.made(4, {(0, 0, 0, 0): 1, (1, 0, 0, 0): -1})
        more_letter = model.made(4, {(0, 0, 0, 0): 1, (1, 0, 0, 0): 1})
        one = times(more_letter, spread((1, 2, 3), 250, 10))
        self.assert_terms(put_in(self.product, [less_letter, one]), 500)
        self.assert_terms(put_in(self.product, [one, less_letter]), 500)
        doubled = plus(one, monomial((0, 0, 0, 0)))
        self.assert_refused(put_in, self.product, [less_letter, doubled])

    def test_squares_that_cancel_out(self):
        # Each square by itself has more than 500 terms; their difference is 4 times the product.
        apart = model.made(2, {(2, 0): 1, (0, 2): -1})
        wide = model.made(4, {powers: Fraction(1) for powers in model.all_powers(4, 8)[::4]})
        letter = model.letter_sum(4, 3, 8)
        high, low = plus(wide, letter), plus(wide, scaled(letter, (-1, 1)))
        self.assert_refused(times, high, high)
        self.assert_refused(times, low, low)
        self.assertEqual(put_in(apart, [high, low]), scaled(times(wide, letter), (4, 1)))


class NeverTooGreat(Case):
    def test_scaled_and_slope_of_the_greatest(self):
        high = model.made(4, {powers: Fraction(2, 3) for powers in model.all_powers(4, 16)[-500:]})
        self.assertEqual(degree(high), 16)
        self.assert_terms(scaled(high, (7, 2)), 500)
        for letter in range(4):
            self.assertIs(is_sum(slope(high, letter)), True)
        self.assert_terms(slope(high, 0), 500)


if __name__ == "__main__":
    unittest.main()
