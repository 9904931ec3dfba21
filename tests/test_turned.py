"""Point 24: papers of squares, weights and pieces turned into rows that the looker of rows lets by."""

import copy
import unittest
from fractions import Fraction

import model
import rimlists
import stretchlists
from lowwater.rows import row_sums
from lowwater.turned import rows_of_piece, rows_of_squares, rows_of_weights
from stretchlists import product, sum_of
from test_rows import sums_of

HALF = Fraction(1, 2)


class Case(unittest.TestCase):
    def assert_last(self, wanted, many, rims, rows):
        self.assertIs(type(rows), list)
        self.assertTrue(all(type(row) is tuple for row in rows))
        self.assertLessEqual(len(rows), 300)
        told = row_sums(many, rims, rows)
        self.assertEqual(told[-1], wanted)
        self.assertEqual(sums_of(many, rims, rows)[-1], wanted)


class Squares(Case):
    def assert_right(self, some):
        many = some[0][1][0]
        before = copy.deepcopy(some)
        rows = rows_of_squares(some)
        self.assertEqual(some, before)
        self.assertFalse([row for row in rows if row[0] == "rim"])
        self.assert_last(model.made(many, model.squares_total(many, some)), many, [], rows)

    def test_one_square(self):
        for many in (1, 2, 3, 4):
            for weight in ((0, 1), (1, 1), (7, 3), (1, 10**299)):
                self.assert_right([(weight, model.letter_sum(many, many - 1))])
                self.assert_right([(weight, (many, ()))])
                self.assert_right([(weight, model.letter_sum(many, 0, 4))])

    def test_none(self):
        for many in (1, 2, 3, 4):
            self.assert_last((many, ()), many, [], rows_of_squares([]))

    def test_several(self):
        rolls = model.dice(260)
        for turn in range(60):
            many = 1 + turn % 4
            some = [(model.pair(abs(model.any_number(rolls))), model.any_sum(rolls, many, 1 + turn % 4, 2)) for square in range(1 + turn % 9)]
            self.assert_right(some)
            self.assert_right(some + some)
            self.assert_right([((0, 1), root) for weight, root in some])

    def test_forty(self):
        rolls = model.dice(261)
        for many in (1, 4):
            self.assert_right([((turn % 5, 1), model.any_sum(rolls, many, 4, 3)) for turn in range(40)])

    def test_by_name(self):
        self.assert_last(sum_of(0, 0, 3), 1, [], rows_of_squares(some=[((3, 1), sum_of(0, 1))]))


class Weights(Case):
    def assert_right(self, number, rims, weights):
        before = copy.deepcopy((number, rims, weights))
        rows = rows_of_weights(number, rims, weights)
        self.assertEqual((number, rims, weights), before)
        self.assert_last(rimlists.come_to(number, rims, weights), rims[0][0], rims, rows)

    def test_one_rim(self):
        for many in (1, 2, 3):
            for number in ((0, 1), (1, 1), (2, 7)):
                for weight in ((0, 1), (1, 1), (5, 3)):
                    self.assert_right(number, [model.letter_sum(many, many - 1)], [weight])
                    self.assert_right(number, [(many, ())], [weight])
                    self.assert_right(number, [model.constant(many, -4)], [weight])

    def test_several(self):
        rolls = model.dice(262)
        for turn in range(60):
            many = 1 + turn % 3
            rims = [rimlists.any_straight(rolls, many) for rim in range(1 + turn % 6)]
            weights = [model.pair(abs(model.any_number(rolls))) if turn % 4 else (0, 1) for rim in rims]
            self.assert_right(model.pair(abs(model.any_number(rolls))), rims, weights)
            self.assert_right((0, 1), rims, weights)

    def test_weights_stand_by_their_own_rims(self):
        rims = [model.letter_sum(3, letter) for letter in range(3)]
        for weights in ([(1, 1), (0, 1), (0, 1)], [(0, 1), (1, 1), (0, 1)], [(0, 1), (0, 1), (1, 1)], [(1, 2), (3, 1), (5, 1)]):
            self.assert_right((1, 3), rims, weights)

    def test_by_name(self):
        rows = rows_of_weights(number=(1, 1), rims=[sum_of(0, 1)], weights=[(2, 1)])
        self.assert_last(sum_of(1, 2), 1, [sum_of(0, 1)], rows)


class Piece(Case):
    def assert_right(self, root, rest, low, high):
        rims = []
        factor = Fraction(1)
        if low is not None:
            rims.append(sum_of(-low, 1))
        if high is not None:
            rims.append(sum_of(high, -1))
        if len(rims) == 2:
            factor = (high - low) ** stretchlists.degree(rest)
        rows = rows_of_piece(root, rest, stretchlists.end(low), stretchlists.end(high))
        self.assert_last(product(root, root, rest, sum_of(factor)), 1, rims, rows)

    def test_numbers_alone(self):
        for number in (0, 1, Fraction(2, 3)):
            for low, high in stretchlists.STRETCHES[:-1]:
                for root in (sum_of(1), sum_of(0, 1), sum_of()):
                    self.assert_right(root, sum_of(number), low, high)

    def test_both_ends(self):
        for low, high in ((0, 1), (-1, HALF), (Fraction(1, 3), Fraction(7, 2))):
            for most in range(9):
                # Numbers from 0 on, some of them 0, multiplied out to a rest that the piece bears out.
                for shift in range(3):
                    tables, factor = stretchlists.binomials(most, Fraction(low), Fraction(high))
                    numbers = [Fraction((at * 5 + shift * 2) % 7, 1 + (at + shift) % 3) for at in range(most)] + [Fraction(shift)]
                    rest = model.made(1, model.weighed(1, list(zip(numbers, tables))))
                    # Where the greatest power goes away there are fewer numbers, and some may be below 0.
                    if stretchlists.degree(rest) < most:
                        continue
                    for root in (sum_of(1), sum_of(-HALF, 0, 3)):
                        self.assert_right(root, rest, low, high)

    def test_one_end(self):
        for end in (0, HALF, Fraction(-7, 3)):
            for most in range(9):
                numbers = [Fraction(at % 3, 1 + at % 4) for at in range(most)] + [Fraction(2, 3)]
                for low, high in ((end, None), (None, end)):
                    tables, factor = stretchlists.binomials(most, *(None if place is None else Fraction(place) for place in (low, high)))
                    rest = model.made(1, model.weighed(1, list(zip(numbers, tables))))
                    for root in (sum_of(1), sum_of(4, -1, 0, 0, 1)):
                        self.assert_right(root, rest, low, high)

    def test_by_name(self):
        rows = rows_of_piece(root=sum_of(1), rest=sum_of(0, 1), low=(0, 1), high=None)
        self.assert_last(sum_of(0, 1), 1, [sum_of(0, 1)], rows)
        rows = rows_of_piece(high=(3, 1), low=(1, 1), rest=sum_of(0, 1), root=sum_of(1))
        self.assert_last(sum_of(0, 2), 1, [sum_of(-1, 1), sum_of(3, -1)], rows)


if __name__ == "__main__":
    unittest.main()
