import unittest
from fractions import Fraction

import model
from lowwater.fractions import is_fraction
from lowwater.sums import is_sum, plus, put_in, scaled, slope, times, worth

LETTERS = (1, 2, 3, 4)


class SumCase(unittest.TestCase):
    def assert_sum(self, told, many, table):
        self.assertEqual(told, model.made(many, table))
        self.assertIs(is_sum(told), True)

    def assert_fraction(self, told, wanted):
        self.assertEqual(told, model.pair(wanted))
        self.assertIs(is_fraction(told), True)

    def rounds(self, seed, most, count, turns=25):
        """For each count of letters some pairs of sums, small ones and a few with long numbers."""
        rolls = model.dice(seed)
        for many in LETTERS:
            for turn in range(turns):
                long = turn % 8 == 7
                size = min(3 if long else count, most + 1)
                yield rolls, many, model.any_sum(rolls, many, most, size, long), model.any_sum(rolls, many, most, size, long)


class Plus(SumCase):
    def test_beside_the_model(self):
        for rolls, many, one, other in self.rounds(1, 9, 9):
            wanted = model.added(model.table_of(one), model.table_of(other))
            self.assert_sum(plus(one, other), many, wanted)
            self.assert_sum(plus(other, one), many, wanted)

    def test_cancels(self):
        one = model.made(2, {(0, 1): Fraction(1, 2), (1, 0): 3, (2, 2): Fraction(-1, 3)})
        self.assertEqual(plus(one, model.made(2, {(0, 1): Fraction(-1, 2), (1, 0): -3, (2, 2): Fraction(1, 3)})), (2, ()))
        self.assertEqual(plus(one, model.made(2, {(1, 0): -3, (0, 0): 1})),
                         (2, (((0, 0), (1, 1)), ((0, 1), (1, 2)), ((2, 2), (-1, 3)))))

    def test_nought(self):
        for many in LETTERS:
            one = model.first_terms(many, 5, 8)
            self.assertEqual(plus(one, (many, ())), one)
            self.assertEqual(plus((many, ()), one), one)
            self.assertEqual(plus((many, ()), (many, ())), (many, ()))

    def test_by_name(self):
        self.assertEqual(plus(other=(1, ()), one=(1, ())), (1, ()))


class Times(SumCase):
    def test_beside_the_model(self):
        for rolls, many, one, other in self.rounds(2, 8, 9):
            wanted = model.multiplied(model.table_of(one), model.table_of(other))
            self.assert_sum(times(one, other), many, wanted)
            self.assert_sum(times(other, one), many, wanted)

    def test_cancels(self):
        for many in LETTERS:
            for letter in range(many):
                high = plus(model.letter_sum(many, letter), model.constant(many, Fraction(1, 2)))
                low = plus(model.letter_sum(many, letter), model.constant(many, Fraction(-1, 2)))
                square = model.letter_sum(many, letter, 2)
                self.assertEqual(times(high, low), plus(square, model.constant(many, Fraction(-1, 4))))

    def test_nought_and_one(self):
        for many in LETTERS:
            one = model.first_terms(many, 9, 16, Fraction(-2, 3))
            self.assertEqual(times(one, (many, ())), (many, ()))
            self.assertEqual(times((many, ()), one), (many, ()))
            self.assertEqual(times((many, ()), (many, ())), (many, ()))
            self.assertEqual(times(one, model.constant(many, 1)), one)

    def test_long_and_many_bottoms(self):
        # Bottoms that share nothing: no short one is common to all of them.
        one = model.made(2, {powers: Fraction(1, 10**299 + at) for at, powers in enumerate(model.all_powers(2, 3))})
        wanted = model.multiplied(model.table_of(one), model.table_of(one))
        self.assert_sum(times(one, one), 2, wanted)

    def test_by_name(self):
        self.assertEqual(times(other=(1, ()), one=(1, ())), (1, ()))


class Scaled(SumCase):
    def test_beside_the_model(self):
        for rolls, many, one, other in self.rounds(3, 16, 9):
            for number in (model.any_number(rolls), Fraction(1), Fraction(-1), model.any_number(rolls, long=True)):
                table = {powers: factor * number for powers, factor in model.table_of(one).items()}
                self.assert_sum(scaled(one, model.pair(number)), many, table)

    def test_by_nought(self):
        for many in LETTERS:
            self.assertEqual(scaled(model.first_terms(many, 5), (0, 1)), (many, ()))
            self.assertEqual(scaled((many, ()), (0, 1)), (many, ()))
            self.assertEqual(scaled((many, ()), (2, 3)), (many, ()))

    def test_the_greatest(self):
        one = model.first_terms(4, 500)
        self.assertEqual(scaled(one, (-1, 2)), model.first_terms(4, 500, 16, Fraction(-1, 2)))

    def test_by_name(self):
        self.assertEqual(scaled(number=(0, 1), one=(1, ())), (1, ()))


class Slope(SumCase):
    def wanted(self, table, letter):
        found = {}
        for powers, number in table.items():
            if powers[letter]:
                lower = list(powers)
                lower[letter] -= 1
                found[tuple(lower)] = number * powers[letter]
        return found

    def test_beside_the_model(self):
        for rolls, many, one, other in self.rounds(4, 16, 12):
            for letter in range(many):
                self.assert_sum(slope(one, letter), many, self.wanted(model.table_of(one), letter))

    def test_plain_ones(self):
        one = model.made(2, {(0, 0): 7, (0, 3): Fraction(1, 3), (2, 1): Fraction(-1, 2), (4, 0): 5})
        self.assertEqual(slope(one, 0), (2, (((1, 1), (-1, 1)), ((3, 0), (20, 1)))))
        self.assertEqual(slope(one, 1), (2, (((0, 2), (1, 1)), ((2, 0), (-1, 2)))))

    def test_nothing_left(self):
        for many in LETTERS:
            for letter in range(many):
                self.assertEqual(slope((many, ()), letter), (many, ()))
                self.assertEqual(slope(model.constant(many, 5), letter), (many, ()))
                for other in range(many):
                    told = slope(model.letter_sum(many, other), letter)
                    self.assertEqual(told, model.constant(many, 1 if other == letter else 0))

    def test_by_name(self):
        self.assertEqual(slope(letter=0, one=(1, ())), (1, ()))


class Worth(SumCase):
    def test_beside_the_model(self):
        for rolls, many, one, other in self.rounds(5, 16, 12):
            for long in (False, True):
                spot = tuple(model.pair(model.any_number(rolls, long)) for _ in range(many))
                self.assert_fraction(worth(one, spot), model.worth(model.table_of(one), spot))

    def test_plain_ones(self):
        one = model.made(2, {(0, 0): 7, (0, 3): Fraction(1, 3), (2, 1): Fraction(-1, 2)})
        self.assertEqual(worth(one, ((0, 1), (0, 1))), (7, 1))
        self.assertEqual(worth(one, ((1, 2), (-3, 1))), (-13, 8))
        self.assertEqual(worth(one, ((10**299, 1), (0, 1))), (7, 1))

    def test_comes_to_nought(self):
        one = model.made(1, {(2,): 4, (1,): -4, (0,): 1})
        self.assertEqual(worth(one, ((1, 2),)), (0, 1))
        for many in LETTERS:
            self.assertEqual(worth((many, ()), ((1, 2),) * many), (0, 1))
            self.assertEqual(worth(model.letter_sum(many, 0, 16), ((0, 1),) * many), (0, 1))
            self.assertEqual(worth(model.constant(many, Fraction(-1, 2)), ((0, 1),) * many), (-1, 2))

    def test_the_greatest(self):
        one = model.first_terms(4, 500)
        spot = ((1, 2), (-2, 3), (5, 1), (-1, 7))
        self.assert_fraction(worth(one, spot), model.worth(model.table_of(one), spot))

    def test_by_name(self):
        self.assertEqual(worth(spot=((1, 2),), one=(1, ())), (0, 1))


class PutIn(SumCase):
    def test_beside_the_model(self):
        rolls = model.dice(6)
        for turn in range(160):
            many, letters = 1 + turn % 4, 1 + turn // 4 % 4
            long = turn >= 144
            one = model.any_sum(rolls, many, 4, 2 if long else 5, long)
            others = [model.any_sum(rolls, letters, 4, 2 if long else 4, long) for _ in range(many)]
            tables = [model.table_of(other) for other in others]
            self.assert_sum(put_in(one, others), letters, model.put_in(model.table_of(one), tables, letters))

    def test_letters_for_letters(self):
        rolls = model.dice(7)
        for many in LETTERS:
            one = model.any_sum(rolls, many, 16, 16)
            letters = [model.letter_sum(many, letter) for letter in range(many)]
            self.assertEqual(put_in(one, letters), one)
            turned = {powers[::-1]: number for powers, number in model.table_of(one).items()}
            self.assertEqual(put_in(one, letters[::-1]), model.made(many, turned))
            same = {}
            for powers, number in model.table_of(one).items():
                same[(sum(powers),)] = same.get((sum(powers),), 0) + number
            self.assertEqual(put_in(one, [model.letter_sum(1, 0)] * many), model.made(1, same))

    def test_numbers_for_letters(self):
        rolls = model.dice(8)
        for many in LETTERS:
            one = model.any_sum(rolls, many, 16, 16)
            spot = tuple(model.pair(model.any_number(rolls)) for _ in range(many))
            for letters in LETTERS:
                others = [model.constant(letters, Fraction(*number)) for number in spot]
                wanted = model.worth(model.table_of(one), spot)
                self.assertEqual(put_in(one, others), model.constant(letters, wanted))

    def test_nought(self):
        for many in LETTERS:
            for letters in LETTERS:
                others = [model.first_terms(letters, 3, 2)] * many
                self.assertEqual(put_in((many, ()), others), (letters, ()))
                noughts = [(letters, ())] * many
                self.assertEqual(put_in(model.first_terms(many, 4), noughts), model.constant(letters, 1))
                self.assertEqual(put_in(model.letter_sum(many, 0, 16), noughts), (letters, ()))
                self.assertEqual(put_in(model.constant(many, Fraction(2, 3)), others), model.constant(letters, Fraction(2, 3)))

    def test_cancels(self):
        one = model.made(2, {(2, 0): 1, (0, 2): -1})
        half = model.made(3, {(1, 0, 0): Fraction(1, 2), (0, 1, 0): 1, (0, 0, 0): -4})
        self.assertEqual(put_in(one, [half, half]), (3, ()))
        self.assertEqual(put_in(one, [half, scaled(half, (-1, 1))]), (3, ()))
        more = plus(half, model.constant(3, 1))
        self.assertEqual(put_in(one, [more, half]), plus(more, half))

    def test_by_name(self):
        self.assertEqual(put_in(others=[(2, ())], one=(1, ())), (2, ()))


if __name__ == "__main__":
    unittest.main()
