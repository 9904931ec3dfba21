import unittest
from fractions import Fraction

import model
import seconds
from lowwater.errors import LowwaterError, NotSecond
from lowwater.lowest import is_lowest, lowest
from lowwater.squares import squares


def is_right(one, told):
    """Whether a tuple is right by point 10, reckoned by the test itself."""
    table = model.table_of(one)
    if told[0] == "least":
        word, number, spot, some = told
        if any(weight[0] < 0 for weight, root in some):
            return False
        lower = model.total(one[0], one, model.constant(one[0], -Fraction(*number)))
        return model.worth(table, spot) == Fraction(*number) and model.squares_total(one[0], some) == model.table_of(lower)
    word, spot, way = told
    second, first = model.second_and_first(table, spot, way)
    return any(step[0] for step in way) and (second < 0 or (second == 0 and first < 0))


class Lowest(unittest.TestCase):
    def assert_right(self, one, told):
        many = one[0]
        self.assertIs(type(told), tuple)
        self.assertIn(told[0], ("least", "falls"))
        spots = told[1:] if told[0] == "falls" else told[2:3]
        for spot in spots:
            self.assertIs(type(spot), tuple)
            self.assertEqual(len(spot), many)
            self.assertTrue(all(model.is_pair(number) for number in spot))
        if told[0] == "falls":
            self.assertEqual(len(told), 3)
        else:
            self.assertEqual(len(told), 4)
            self.assertTrue(model.is_pair(told[1]))
            self.assertIs(type(told[3]), list)
            self.assertLessEqual(len(told[3]), 40)
            for weight, root in told[3]:
                self.assertTrue(model.is_pair(weight) and model.is_made(root, many))
        self.assertTrue(is_right(one, told))
        self.assertIs(is_lowest(one, told), True)

    def test_all_kinds_beside_squares(self):
        words = set()
        for one in seconds.all_sums():
            told = lowest(one)
            self.assert_right(one, told)
            words.add((one[0], told[0]))
            so = told[0] == "least" and told[1][0] >= 0
            self.assertEqual(squares(one)[0], "so" if so else "below")
        self.assertEqual(len(words), 8)

    def test_numbers(self):
        for many in (1, 2, 3, 4):
            for one in seconds.lone(many):
                told = lowest(one)
                self.assertEqual(told[:2], ("least", one[1][0][1] if one[1] else (0, 1)))

    def test_falls(self):
        rolls = model.dice(92)
        for many in (1, 2, 3, 4):
            for one in seconds.far_away(many, rolls) + [model.letter_sum(many, letter) for letter in range(many)]:
                self.assertEqual(lowest(one)[0], "falls")

    def test_known_numbers(self):
        for one, wanted in (
            (model.made(1, {(2,): Fraction(1), (1,): Fraction(-3)}), (-9, 4)),
            (model.made(1, {(2,): Fraction(3), (1,): Fraction(1), (0,): Fraction(1, 12)}), (0, 1)),
            (model.made(2, {(2, 0): Fraction(1), (1, 1): Fraction(1), (0, 2): Fraction(1), (1, 0): Fraction(3)}), (-3, 1)),
            (model.made(2, {(2, 0): Fraction(1), (1, 1): Fraction(2), (0, 2): Fraction(1), (0, 0): Fraction(5)}), (5, 1)),
            (model.made(3, {(0, 0, 2): Fraction(2), (0, 0, 1): Fraction(2)}), (-1, 2)),
        ):
            told = lowest(one)
            self.assertEqual(told[:2], ("least", wanted))
            self.assert_right(one, told)

    def test_again_behind_a_refusal(self):
        one = model.made(2, {(2, 0): Fraction(2), (1, 1): Fraction(-1), (0, 2): Fraction(3)})
        for high in seconds.above_second():
            for turn in range(2):
                with self.assertRaises(NotSecond) as caught:
                    lowest(high)
                self.assertIsInstance(caught.exception, LowwaterError)
            self.assert_right(one, lowest(one))

    def test_by_name(self):
        self.assertEqual(lowest(one=(2, ()))[:2], ("least", (0, 1)))
        with self.assertRaises(NotSecond):
            lowest(one=model.letter_sum(1, 0, 3))


class IsLowest(unittest.TestCase):
    def assert_told(self, one, told, wanted=None):
        right = is_right(one, told)
        if wanted is not None:
            self.assertIs(right, wanted)
        self.assertIs(is_lowest(one, told), right, (one, told))

    def changed(self, number):
        """A fraction made otherwise, in several ways."""
        number = Fraction(*number)
        return [model.pair(other) for other in (number + 1, number - 1, number + seconds.TINY, -number - 1, number / 2)]

    def few(self):
        return seconds.all_sums(93, long=False)[::3] + seconds.long_ones(2, model.dice(96))

    def test_least_otherwise(self):
        for one in self.few():
            told = lowest(one)
            if told[0] != "least":
                continue
            word, number, spot, some = told
            self.assert_told(one, told, True)
            for other in self.changed(number):
                if other != number:
                    self.assert_told(one, (word, other, spot, some), False)
                    rest = model.constant(one[0], 1)
                    share = model.pair(Fraction(*number) - Fraction(*other))
                    self.assert_told(one, (word, other, spot, some + [(share, rest)]), False)
            for at in range(one[0]):
                for other in self.changed(spot[at]):
                    self.assert_told(one, (word, number, spot[:at] + (other,) + spot[at + 1:], some))
            for at, (weight, root) in enumerate(some):
                self.assert_told(one, (word, number, spot, some[:at] + some[at + 1:]), False)
                for other in self.changed(weight):
                    self.assert_told(one, (word, number, spot, some[:at] + [(other, root)] + some[at + 1:]))
                turned = model.made(one[0], {powers: -factor for powers, factor in model.table_of(root).items()})
                self.assert_told(one, (word, number, spot, some[:at] + [(weight, turned)] + some[at + 1:]), True)
                bent = model.total(one[0], root, model.constant(one[0], seconds.TINY))
                self.assert_told(one, (word, number, spot, some[:at] + [(weight, bent)] + some[at + 1:]), False)
            self.assert_told(one, (word, number, spot, some[::-1]), True)
            extra = model.letter_sum(one[0], 0)
            self.assert_told(one, (word, number, spot, some + [((0, 1), extra)]), True)
            self.assert_told(one, (word, number, spot, some + [((1, 1), extra), ((-1, 1), extra)]), False)

    def test_falls_otherwise(self):
        rolls = model.dice(94)
        for one in self.few():
            told = lowest(one)
            if told[0] != "falls":
                continue
            word, spot, way = told
            self.assert_told(one, told, True)
            self.assert_told(one, (word, spot, ((0, 1),) * one[0]), False)
            self.assert_told(one, (word, spot, tuple(model.pair(Fraction(*step) * Fraction(5, 3)) for step in way)), True)
            self.assert_told(one, (word, spot, tuple((-top, bottom) for top, bottom in way)))
            for turn in range(6):
                other = tuple(model.pair(model.any_number(rolls)) for letter in range(one[0]))
                self.assert_told(one, (word, other, way))
                self.assert_told(one, (word, spot, other))
                self.assert_told(one, (word, other, other))

    def test_the_other_word(self):
        rolls = model.dice(95)
        for one in self.few():
            told = lowest(one)
            for turn in range(3):
                spot = tuple(model.pair(model.any_number(rolls)) for letter in range(one[0]))
                way = tuple(model.pair(model.any_number(rolls)) for letter in range(one[0]))
                if told[0] == "least":
                    self.assert_told(one, ("falls", spot, way), False)
                    self.assert_told(one, ("falls", told[2], way), False)
                else:
                    number = model.pair(model.worth(model.table_of(one), spot))
                    self.assert_told(one, ("least", number, spot, []), False)
                    self.assert_told(one, ("least", number, spot, [((1, 1), model.letter_sum(one[0], 0))]), False)

    def test_weights_below_0_though_all_comes_to_the_sum(self):
        for many in (1, 2, 3, 4):
            down = model.made(many, {powers: Fraction(-1) for powers, number in model.letter_sum(many, 0, 2)[1]})
            told = ("least", (0, 1), ((0, 1),) * many, [((-1, 1), model.letter_sum(many, 0))])
            self.assertIs(is_lowest(down, told), False)
            up = model.letter_sum(many, 0, 2)
            some = [((2, 1), model.letter_sum(many, 0)), ((-1, 1), model.letter_sum(many, 0))]
            self.assertIs(is_lowest(up, ("least", (0, 1), ((0, 1),) * many, some)), False)

    def test_a_flat_bottom(self):
        valley = model.square_of(model.straight(2, 1, -1, 0))
        for at in (0, 1, -3, Fraction(7, 3)):
            spot = (model.pair(at), model.pair(at))
            self.assert_told(valley, ("least", (0, 1), spot, [((1, 1), model.straight(2, 1, -1, 0))]), True)
            self.assert_told(valley, ("falls", ((0, 1), (0, 1)), spot), False)
        self.assert_told(valley, ("least", (0, 1), ((1, 1), (0, 1)), [((1, 1), model.straight(2, 1, -1, 0))]), False)

    def test_a_way_that_only_rises_behind(self):
        slope = model.letter_sum(1, 0)
        self.assert_told(slope, ("falls", ((0, 1),), ((-1, 1),)), True)
        self.assert_told(slope, ("falls", ((5, 1),), ((-1, 7),)), True)
        self.assert_told(slope, ("falls", ((0, 1),), ((1, 1),)), False)
        saddle = model.made(2, {(2, 0): Fraction(1), (0, 2): Fraction(-1)})
        self.assert_told(saddle, ("falls", ((9, 1), (0, 1)), ((1, 1), (2, 1))), True)
        self.assert_told(saddle, ("falls", ((9, 1), (0, 1)), ((2, 1), (1, 1))), False)
        # Where the second power cancels out the first one tells, and this hangs on the spot.
        self.assert_told(saddle, ("falls", ((-9, 1), (0, 1)), ((1, 1), (1, 1))), True)
        self.assert_told(saddle, ("falls", ((9, 1), (0, 1)), ((1, 1), (1, 1))), False)
        self.assert_told(saddle, ("falls", ((0, 1), (0, 1)), ((1, 1), (1, 1))), False)

    def test_other_lengths_and_words(self):
        down = model.straight(2, -1, 0, 0)
        for spot in ((), ((0, 1),), ((0, 1),) * 3):
            self.assertIs(is_lowest((2, ()), ("least", (0, 1), spot, [])), False)
            self.assertIs(is_lowest(down, ("falls", spot, ((1, 1), (0, 1)))), False)
        for way in ((), ((1, 1),), ((1, 1), (0, 1), (0, 1))):
            self.assertIs(is_lowest(down, ("falls", ((0, 1),) * 2, way)), False)
        self.assertIs(is_lowest((2, ()), ("so", [])), False)

    def test_by_name(self):
        self.assertIs(is_lowest(told=("least", (0, 1), ((0, 1),), []), one=(1, ())), True)
        self.assertIs(is_lowest(told=("falls", ((0, 1),), ((1, 1),)), one=(1, ())), False)


if __name__ == "__main__":
    unittest.main()
