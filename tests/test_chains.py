"""Points 1 to 3 over the whole program: what is told in one place serves in the others."""

import unittest
from fractions import Fraction

import boxlists
import model
import rimlists
import seconds
import stretchlists
from lowwater.errors import TooMany
from lowwater.layers import is_nearly_in, nearly_in, never_in
from lowwater.lowest import is_lowest, lowest
from lowwater.parts import parts, split
from lowwater.reach import is_reach, reach
from lowwater.rims import is_over, kept, over
from lowwater.rows import row_sums
from lowwater.squares import are_squares, squares
from lowwater.stretches import is_nearly, nearly, never
from lowwater.sumtexts import read, shown
from lowwater.turned import rows_of_piece, rows_of_squares, rows_of_weights
from stretchlists import ends_of, product, sum_of


def all_ints(told):
    """Whether nothing but whole numbers, texts, None, tuples and lists stand in what was told: no float, no truth."""
    if isinstance(told, (list, tuple)):
        return all(all_ints(part) for part in told)
    return type(told) in (int, str, type(None))


class Squares(unittest.TestCase):
    def test_told_squares_become_rows(self):
        for one in seconds.all_sums(seed=270, long=False):
            told = squares(one)
            self.assertTrue(all_ints(told))
            if told[0] == "so":
                self.assertEqual(row_sums(one[0], [], rows_of_squares(told[1]))[-1], one)

    def test_squares_beside_the_least_worth(self):
        for one in seconds.all_sums(seed=271, long=False):
            told, least = squares(one), lowest(one)
            self.assertTrue(all_ints(least))
            self.assertEqual(told[0] == "so", least[0] == "least" and least[1][0] >= 0)
            self.assertIs(is_lowest(one, least), True)
            if least[0] == "least":
                lower = boxlists.less_number(one, Fraction(*least[1]))
                self.assertTrue(are_squares(lower, least[3]))
                self.assertEqual(squares(lower)[0], "so")
                self.assertEqual(squares(boxlists.less_number(lower, Fraction(1, 10**40)))[0], "below")
                self.assertEqual(row_sums(one[0], [], rows_of_squares(least[3]))[-1], lower)


class Weights(unittest.TestCase):
    def test_told_weights_become_rows(self):
        rolls = model.dice(272)
        words = {}
        for rims in rimlists.all_rims(seed=272, turns=20, long=False):
            many = rims[0][0]
            told = kept(rims)
            self.assertTrue(all_ints(told))
            if told[0] == "none":
                self.assertEqual(row_sums(many, rims, rows_of_weights((0, 1), rims, told[1]))[-1], model.constant(many, -1))
            for one in rimlists.sums_for(rims, rolls, count=1):
                told, least = over(one, rims), reach(one, rims)
                self.assertTrue(all_ints(told) and all_ints(least))
                self.assertIs(is_over(one, rims, told), True)
                self.assertIs(is_reach(one, rims, least), True)
                words[told[0]] = words.get(told[0], 0) + 1
                self.assertEqual(told[0] == "none", least[0] == "none")
                self.assertEqual(told[0] == "so", least[0] == "least" and least[1][0] >= 0)
                if told[0] == "so":
                    self.assertEqual(row_sums(many, rims, rows_of_weights(told[1], rims, told[2]))[-1], one)
                if least[0] == "least":
                    lower = boxlists.less_number(one, Fraction(*least[1]))
                    self.assertEqual(row_sums(many, rims, rows_of_weights((0, 1), rims, least[3]))[-1], lower)
        self.assertGreater(min(words.values()), 50)


class Pieces(unittest.TestCase):
    def rims_of(self, low, high):
        lower = [] if low is None else [sum_of(-Fraction(*low), 1)]
        upper = [] if high is None else [sum_of(Fraction(*high), -1)]
        return lower + upper

    def assert_rows(self, one, root, rest, pieces):
        for low, high, numbers in pieces:
            width = 1 if low is None or high is None else Fraction(*high) - Fraction(*low)
            told = row_sums(1, self.rims_of(low, high), rows_of_piece(root, rest, low, high))
            self.assertEqual(told[-1], product(one, sum_of(width ** stretchlists.degree(rest))))

    def test_told_pieces_become_rows(self):
        rolls = model.dice(273)
        several = 0
        for turn in range(150):
            factors = [stretchlists.any_of_degree(rolls, rolls.randint(0, 2)) for factor in range(4)]
            one = product(*factors) if turn % 2 else product(*factors[:2], *factors[:2])
            if turn % 3 == 0:
                one = product(stretchlists.any_of_degree(rolls, 1), model.total(1, product(*factors[:1] * 2), sum_of(Fraction(1, 50))))
            for stretch in stretchlists.STRETCHES[turn % 3::3]:
                told = never(one, *ends_of(stretch))
                self.assertTrue(all_ints(told))
                if told[0] == "so":
                    word, root, rest, pieces = told
                    if one[1]:
                        self.assertEqual((root, rest), split(one))
                    self.assert_rows(one, root, rest, pieces)
                    several += len(pieces) > 1
        self.assertGreater(several, 30)

    def test_never_beside_nearly_and_the_box(self):
        rolls = model.dice(274)
        for turn in range(120):
            one = stretchlists.any_of_degree(rolls, turn % 5)
            low, high = ends_of(sorted(rolls.sample([Fraction(top, 7) for top in range(-30, 31)], 2)))
            told = never(one, low, high)[0]
            number, spot, pieces = nearly(one, low, high, (1, 1000))
            self.assertTrue(all_ints((number, spot, pieces)))
            self.assertIs(is_nearly(one, low, high, (1, 1000), (number, spot, pieces)), True)
            if number[0] >= 0:
                self.assertEqual(told, "so")
            if stretchlists.worth(one, spot) < 0:
                self.assertEqual(told, "below")
            self.assert_rows(stretchlists.less_number(one, Fraction(*number)), sum_of(1), stretchlists.less_number(one, Fraction(*number)), pieces)
            self.assertEqual(never(stretchlists.less_number(one, Fraction(*number)), low, high)[0], "so")
            try:
                self.assertEqual(never_in(one, [(low, high)], 60)[0], told)
                box_told = nearly_in(one, [(low, high)], (1, 1000), 60)
            except TooMany:
                continue
            self.assertTrue(all_ints(box_told))
            self.assertIs(is_nearly_in(one, [(low, high)], (1, 1000), box_told), True)
            self.assertLess(abs(Fraction(*box_told[0]) - Fraction(*number)), Fraction(1, 500))

    def test_second_degrees_on_the_line(self):
        rolls = model.dice(275)
        for turn in range(80):
            one = stretchlists.any_of_degree(rolls, turn % 3)
            self.assertEqual(never(one, None, None)[0], squares(one)[0])
            least = lowest(one)
            if least[0] == "least":
                lower = stretchlists.less_number(one, Fraction(*least[1]))
                self.assertEqual(never(lower, None, None)[0], "so")
                self.assertEqual(never(stretchlists.less_number(lower, Fraction(1, 10**30)), None, None)[0], "below")

    def test_straight_sums_between_rims(self):
        rolls = model.dice(276)
        for turn in range(60):
            one = stretchlists.any_of_degree(rolls, 1)
            low, high = sorted(rolls.sample([Fraction(top, 7) for top in range(-30, 31)], 2))
            rims = [sum_of(-low, 1), sum_of(high, -1)]
            ends = ends_of((low, high))
            self.assertEqual(over(one, rims)[0], never(one, *ends)[0])
            self.assertEqual(never_in(one, [ends], 1)[0], never(one, *ends)[0])
            least = Fraction(*reach(one, rims)[1])
            number, spot, pieces = nearly(one, *ends, (1, 10**9))
            self.assertTrue(Fraction(*number) <= least <= Fraction(*number) + Fraction(1, 10**9))


class Texts(unittest.TestCase):
    def test_read_and_shown(self):
        rolls = model.dice(277)
        for turn in range(60):
            one = stretchlists.any_of_degree(rolls, turn % 8)
            self.assertEqual(read(shown(one), 1), one)
            number, found = parts(one)
            again = product(sum_of(Fraction(*number)), *[read(shown(part), 1) for part, often in found for turn in range(often)])
            self.assertEqual(again, one)
            told = never(read(shown(one), 1), None, (1, 1))
            self.assertEqual(told[0], never(one, None, (1, 1))[0])


if __name__ == "__main__":
    unittest.main()
