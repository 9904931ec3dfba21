import unittest
from fractions import Fraction

import model
import seconds
from lowwater.errors import LowwaterError, NotSecond
from lowwater.squares import are_squares, squares


class AreSquares(unittest.TestCase):
    def made_by_anyone(self, seed=80):
        """Sums and squares that bear them out, the sums of degree to 4."""
        rolls = model.dice(seed)
        for many in (1, 2, 3, 4):
            for most in (0, 1, 2, 3, 4):
                for count in (1, 2, 4):
                    roots = [model.any_sum(rolls, many, most, min(6, most + 1)) for turn in range(count)]
                    some = [(model.pair(abs(model.any_number(rolls))), root) for root in roots]
                    yield many, model.made(many, model.squares_total(many, some)), some

    def assert_told(self, wanted, one, some):
        self.assertIs(are_squares(one, some), wanted)

    def test_right_ones(self):
        for many, one, some in self.made_by_anyone():
            self.assert_told(True, one, some)
            self.assert_told(True, one, some[::-1])
            nought = ((0, 1), model.first_terms(many, 3, 4))
            self.assert_told(True, one, some + [nought])
            self.assert_told(True, one, [nought] + some)
            for at, (weight, root) in enumerate(some):
                turned = model.made(many, {powers: -number for powers, number in model.table_of(root).items()})
                self.assert_told(True, one, some[:at] + [(weight, turned)] + some[at + 1:])
                third, rest = model.pair(Fraction(*weight) / 3), model.pair(Fraction(*weight) * 2 / 3)
                self.assert_told(True, one, some[:at] + [(third, root), (rest, turned)] + some[at + 1:])
                doubled = model.made(many, {powers: 2 * number for powers, number in model.table_of(root).items()})
                self.assert_told(True, one, some[:at] + [(model.pair(Fraction(*weight) / 4), doubled)] + some[at + 1:])

    def test_something_otherwise(self):
        for many, one, some in self.made_by_anyone(81):
            for at, (weight, root) in enumerate(some):
                ahead, behind = some[:at], some[at + 1:]
                other = model.total(many, root, model.letter_sum(many, many - 1), model.constant(many, Fraction(1, 10**9)))
                changed = [
                    ahead + behind, ahead + [(model.pair(Fraction(*weight) + 1), root)] + behind,
                    ahead + [(model.pair(Fraction(*weight) + seconds.TINY), root)] + behind,
                    ahead + [(weight, other)] + behind, some + [some[at]], some + [((1, 1), model.constant(many, seconds.TINY))],
                ]
                for wrong in changed:
                    same = model.squares_total(many, wrong) == model.table_of(one)
                    self.assert_told(same, one, wrong)
            for powers in model.all_powers(many, 1):
                otherwise = model.total(many, one, model.made(many, {powers: -seconds.TINY}))
                self.assert_told(False, otherwise, some)

    def test_none_at_all(self):
        for many in (1, 2, 3, 4):
            self.assert_told(True, (many, ()), [])
            self.assert_told(True, (many, ()), [((0, 1), model.letter_sum(many, 0, 4)), ((0, 1), (many, ()))])
            self.assert_told(True, (many, ()), [((5, 3), (many, ()))])
            self.assert_told(False, (many, ()), [((1, 1), model.constant(many, 1))])
            for one in (model.constant(many, 1), model.constant(many, -1), model.letter_sum(many, 0, 2)):
                self.assert_told(False, one, [])
                self.assert_told(False, one, [((0, 1), one)])

    def test_weights_below_0(self):
        for many, one, some in self.made_by_anyone(82):
            root = model.total(many, model.letter_sum(many, 0), model.constant(many, 2))
            for weight in ((1, 1), (1, 10**20), (7, 3)):
                less = (-weight[0], weight[1])
                self.assert_told(False, one, some + [(weight, root), (less, root)])
                self.assert_told(False, one, [(less, root)] + some + [(weight, root)])
                self.assert_told(False, one, some + [(less, (many, ()))])
            lower = model.made(many, model.squares_total(many, some + [((-1, 2), root)]))
            self.assert_told(False, lower, some + [((-1, 2), root)])
        self.assert_told(False, model.made(1, {(2,): -1}), [((-1, 1), model.letter_sum(1, 0))])
        self.assert_told(False, (1, ()), [((-1, 1), (1, ()))])

    def test_full_squares_of_degree_8(self):
        rolls = model.dice(83)
        for many in (1, 2, 3, 4):
            full = model.made(many, {powers: Fraction(rolls.randint(1, 9), rolls.randint(1, 9)) for powers in model.all_powers(many, 4)})
            some = [((2, 3), full), ((1, 5), model.letter_sum(many, 0, 4)), ((1, 7), full)]
            one = model.made(many, model.squares_total(many, some))
            self.assertEqual(max(sum(powers) for powers, number in one[1]), 8)
            self.assert_told(True, one, some)
            self.assert_told(False, one, some[:2])
            self.assert_told(False, model.total(many, one, model.letter_sum(many, 0, 8)), some)
            self.assert_told(False, model.total(many, one, model.constant(many, 1)), some)

    def test_forty_of_them(self):
        some = [(model.pair(Fraction(at, 7)), model.straight(4, at, -at, Fraction(1, at + 1), 2, at % 3)) for at in range(40)]
        one = model.made(4, model.squares_total(4, some))
        self.assert_told(True, one, some)
        self.assert_told(False, one, some[:-1])

    def test_beyond_degree_4(self):
        # Each square by itself has more terms than a sum may have; what the two come to hasn't.
        early = model.made(4, {powers + (0, 0): Fraction(1) for powers in model.all_powers(2, 5)})
        late = model.made(4, {(0, 0) + powers: Fraction(1) for powers in model.all_powers(2, 5)})
        turned = model.made(4, {powers: -number for powers, number in model.table_of(late).items()})
        some = [((1, 2), model.total(4, early, late)), ((1, 2), model.total(4, early, turned))]
        self.assertGreater(len(model.squares_total(4, some[:1])), 500)
        one = model.total(4, model.square_of(early), model.square_of(late))
        self.assert_told(True, one, some)
        self.assert_told(False, one, some[:1])
        self.assert_told(False, one, some[:1] * 2)
        self.assert_told(False, model.letter_sum(1, 0, 16), [((1, 1), model.letter_sum(1, 0, 9))])
        self.assert_told(True, model.letter_sum(1, 0, 16), [((1, 1), model.letter_sum(1, 0, 8))])

    def test_long_fractions(self):
        long = Fraction(7 * 10**80 + 1, 10**85 + 9)
        for many in (1, 2, 3, 4):
            root = model.straight(many, *[long + at for at in range(many + 1)])
            some = [(model.pair(long), root), ((1, 3), model.straight(many, *[1 / long] * (many + 1)))]
            one = model.made(many, model.squares_total(many, some))
            self.assert_told(True, one, some)
            self.assert_told(False, one, [(model.pair(long + Fraction(1, 10**200)), root), some[1]])

    def test_by_name(self):
        self.assertIs(are_squares(some=[], one=(1, ())), True)


class Squares(unittest.TestCase):
    def assert_right(self, one, told):
        many = one[0]
        self.assertIs(type(told), tuple)
        self.assertEqual(len(told), 2)
        if told[0] == "so":
            self.assertIs(type(told[1]), list)
            self.assertLessEqual(len(told[1]), 40)
            for share in told[1]:
                weight, root = share
                self.assertIs(type(share), tuple)
                self.assertTrue(model.is_pair(weight) and weight[0] >= 0)
                self.assertTrue(model.is_made(root, many))
            self.assertEqual(model.made(many, model.squares_total(many, told[1])), one)
            self.assertIs(are_squares(one, told[1]), True)
        else:
            self.assertEqual(told[0], "below")
            self.assertIs(type(told[1]), tuple)
            self.assertEqual(len(told[1]), many)
            self.assertTrue(all(model.is_pair(number) for number in told[1]))
            self.assertLess(model.worth(model.table_of(one), told[1]), 0)

    def assert_all(self, word, sums):
        for one in sums:
            told = squares(one)
            self.assertEqual(told[0], word, one)
            self.assert_right(one, told)

    def test_all_kinds(self):
        words = set()
        for one in seconds.all_sums():
            told = squares(one)
            words.add((one[0], told[0]))
            self.assert_right(one, told)
        self.assertEqual(len(words), 8)

    def test_numbers(self):
        for many in (1, 2, 3, 4):
            self.assertEqual(squares((many, ()))[0], "so")
            for one in seconds.lone(many):
                self.assertEqual(squares(one)[0], "below" if one[1] and one[1][0][1][0] < 0 else "so")

    def test_known_words(self):
        rolls = model.dice(91)
        for many in (1, 2, 3, 4):
            self.assert_all("below", [model.letter_sum(many, letter) for letter in range(many)])
            self.assert_all("below", seconds.far_away(many, rolls))
            self.assert_all("so", [seconds.any_squares(many, rolls, count) for count in (1, 2, 3, 4, 5, 6)])
            self.assert_all("below", seconds.between(many, rolls)[::2])
            self.assert_all("so", seconds.between(many, rolls)[1::2])

    def test_products_without_squares(self):
        for many in (2, 3, 4):
            product = model.made(many, {(1,) * 2 + (0,) * (many - 2): Fraction(1)})
            first, second = model.letter_sum(many, 0, 2), model.letter_sum(many, 1, 2)
            self.assert_all("below", [product, model.total(many, product, first), model.total(many, product, second)])
            self.assert_all("so", [model.total(many, product, first, second), model.total(many, product, product, first, second)])
            self.assert_all("below", [model.total(many, product, product, product, first, second)])

    def test_again_behind_a_refusal(self):
        one = model.made(2, {(2, 0): Fraction(2), (1, 1): Fraction(-1), (0, 2): Fraction(3)})
        for high in seconds.above_second():
            for turn in range(2):
                with self.assertRaises(NotSecond) as caught:
                    squares(high)
                self.assertIsInstance(caught.exception, LowwaterError)
            self.assert_right(one, squares(one))

    def test_by_name(self):
        self.assertEqual(squares(one=(2, ()))[0], "so")
        with self.assertRaises(NotSecond):
            squares(one=model.letter_sum(1, 0, 3))


if __name__ == "__main__":
    unittest.main()
