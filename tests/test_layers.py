"""Points 21 and 22: sums in boxes, by layers of ever smaller boxes."""

import copy
import unittest
from fractions import Fraction

import boxlists
import model
from boxlists import handed
from lowwater.errors import LowwaterError, TooMany
from lowwater.layers import is_nearly_in, nearly_in, never_in

HALF = Fraction(1, 2)
LIMITS = (1, 2, 3, 7, 20, 60)


def unit(many):
    return [(Fraction(0), Fraction(1))] * many


def dip(many, *places):
    """A sum that is 0 at one spot and above 0 elsewhere: the squares of the letters less their places."""
    roots = [model.total(many, model.letter_sum(many, letter), model.constant(many, -place)) for letter, place in enumerate(places)]
    return model.total(many, *[model.square_of(root) for root in roots])


def above(one, number):
    return boxlists.less_number(one, -number)


class Case(unittest.TestCase):
    def assert_tree(self, tree, many, limit):
        self.assertTrue(boxlists.is_tree(tree, many))
        self.assertLessEqual(boxlists.depth_of(tree), 39)
        self.assertLessEqual(boxlists.cuts_in(tree), 39 * limit)

    def any_sums(self, seed, turns):
        """Sums of one to three letters with boxes, of all powers that are told by layers."""
        rolls = model.dice(seed)
        for turn in range(turns):
            many = 1 + turn % 3
            one = boxlists.any_of_powers(rolls, many, turn // 3 % (boxlists.LAYER_POWERS[many] + 1), share=rolls.choice((0.4, 0.8, 1)))
            box = boxlists.any_box(rolls, many)
            yield one, box, rolls
            worths = [boxlists.worth(one, spot) for spot in boxlists.corners(box)]
            for number in (-min(worths), 1 - min(worths), Fraction(1, 50) - min(worths)):
                yield above(one, number), box, rolls


class NeverIn(Case):
    def assert_right(self, one, box, limit, wanted=None):
        word, what = boxlists.walk(one, box, limit)
        if wanted is not None:
            self.assertEqual(word, wanted)
        if word == "many":
            for turn in range(2):
                with self.assertRaises(TooMany) as caught:
                    never_in(one, handed(box), limit)
                self.assertIsInstance(caught.exception, LowwaterError)
            return word
        told = never_in(one, handed(box), limit)
        self.assertIs(type(told), tuple)
        self.assertEqual((told[0], len(told)), (word, 2))
        if word == "below":
            self.assertTrue(type(told[1]) is tuple and all(model.is_pair(place) for place in told[1]))
            self.assertIn(tuple(Fraction(*place) for place in told[1]), what)
        else:
            self.assert_tree(told[1], one[0], limit)
            self.assertTrue(boxlists.bears(one, box, told[1]))
        return word

    def test_numbers_alone(self):
        for many in (1, 2, 3):
            for limit in LIMITS:
                self.assert_right(model.constant(many, 2), unit(many), limit, "so")
                self.assert_right((many, ()), unit(many), limit, "so")
                self.assert_right(model.constant(many, Fraction(-1, 10**200)), unit(many), limit, "below")

    def test_whatever_comes(self):
        words = {"so": 0, "below": 0, "many": 0}
        for one, box, rolls in self.any_sums(220, 120):
            words[self.assert_right(one, box, rolls.choice(LIMITS))] += 1
        self.assertGreater(words["so"], 50)
        self.assertGreater(words["below"], 50)

    def test_nought_at_one_spot(self):
        third = Fraction(1, 3)
        for limit in LIMITS:
            # A cut comes to the spot, or never does, so that the fortieth layer is refused.
            self.assert_right(dip(1, HALF), unit(1), limit, "so")
            self.assert_right(dip(1, Fraction(5, 32)), unit(1), limit, "so")
            self.assert_right(dip(1, third), unit(1), limit, "many")
            self.assert_right(dip(1, Fraction(0)), unit(1), limit, "so")
            self.assert_right(above(dip(1, third), Fraction(-1, 10**10)), unit(1), limit, "below")
            self.assert_right(above(dip(1, third), Fraction(1, 10**10)), unit(1), limit, "so")
        for limit in (3, 20):
            self.assert_right(dip(2, third, third), unit(2), limit, "many")
            self.assert_right(dip(2, third, HALF), unit(2), limit)
            self.assert_right(above(dip(2, third, third), Fraction(1, 10**5)), unit(2), limit)
            self.assert_right(above(dip(2, third, third), Fraction(-1, 10**5)), unit(2), limit)

    def test_the_fortieth_layer(self):
        # (x - 2^-k)^2 needs its cut at 2^-k: the boxes of layer k + 1 are all done, and of layer 40 at last.
        for power in (1, 20, 38, 39, 40, 41):
            place = Fraction(1, 2**power)
            for one, box in ((dip(1, place), unit(1)), (dip(1, 1 - place), unit(1)), (dip(1, 3 - 2 * place), [(Fraction(1), Fraction(3))])):
                self.assert_right(one, box, 1, "so" if power <= 39 else "many")
        for power in (19, 20, 21):
            place = Fraction(1, 2**power)
            first = model.made(2, {powers + (0,): number for powers, number in model.table_of(dip(1, place)).items()})
            second = model.made(2, {(0,) + powers: number for powers, number in model.table_of(dip(1, place)).items()})
            self.assert_right(first, unit(2), 60)
            self.assert_right(second, unit(2), 60)

    def test_letters_in_turn_though_they_stand_in_no_term(self):
        # Behind each cut by a letter that does nothing all boxes left are twice as many, so the limit tells.
        first = model.made(2, {powers + (0,): number for powers, number in model.table_of(dip(1, Fraction(1, 4))).items()})
        second = model.made(2, {(0,) + powers: number for powers, number in model.table_of(dip(1, Fraction(1, 4))).items()})
        for one in (first, second):
            outcomes = [self.assert_right(one, unit(2), limit) for limit in (1, 2, 3, 4, 5)]
            self.assertEqual(sorted(set(outcomes)), ["many", "so"])
        tree = never_in(second, handed(unit(2)), 20)[1]
        self.assertEqual(tree[0], 0)
        self.assertEqual({tree[1][0], tree[2][0]}, {1})
        third = model.made(3, {(0, 0, 1): Fraction(1), (0, 0, 0): Fraction(-1, 4)})
        self.assertEqual(self.assert_right(third, unit(3), 8), "below")
        self.assert_right(model.letter_sum(3, 2), unit(3), 1, "so")

    def test_three_letters_with_squares(self):
        # Somewhat beyond the powers that are asked for, but here three letters are cut in turn at all.
        half = (HALF, HALF, HALF)
        for limit in (1, 8, 60):
            self.assert_right(dip(3, *half), unit(3), limit)
            self.assert_right(above(dip(3, *half), Fraction(-1, 100)), unit(3), limit)
            for letter in range(3):
                alone = model.square_of(model.total(3, model.letter_sum(3, letter), model.constant(3, -HALF)))
                self.assert_right(alone, unit(3), limit)
                self.assert_right(above(alone, Fraction(-1, 100)), unit(3), limit)

    def test_below_at_corners_of_later_layers_alone(self):
        for power in (1, 2, 3, 7):
            place = Fraction(1, 2**power)
            for limit in (1, 2, 20):
                self.assert_right(above(dip(1, place), -place**2 / 100), unit(1), limit, "below")
        saddle = model.made(2, {(1, 1): Fraction(1), (0, 0): Fraction(-1, 10), (2, 0): Fraction(1), (0, 2): Fraction(-1)})
        self.assert_right(saddle, unit(2), 20, "below")
        for many in (1, 2, 3):
            # Below 0 at one corner of the box alone.
            for corner in range(2**many):
                places = [corner >> letter & 1 for letter in range(many)]
                one = model.constant(many, Fraction(-1, 10**6))
                for letter, place in enumerate(places):
                    one = model.total(many, one, model.straight(many, *[(1 - 2 * place) * (at == letter) for at in range(many)], place))
                self.assert_right(one, unit(many), 1, "below")

    def test_the_limit(self):
        counts = {}
        for many, one, box in ((2, above(dip(2, Fraction(1, 3), Fraction(2, 3)), Fraction(1, 100)), unit(2)),
                               (2, above(dip(2, Fraction(2, 5), Fraction(2, 5)), Fraction(1, 3000)), unit(2)),
                               (3, model.made(3, {(1, 1, 1): Fraction(-8), (0, 0, 0): Fraction(1), (1, 1, 0): Fraction(8)}), unit(3)),
                               (2, model.made(2, {(2, 2): Fraction(9), (1, 1): Fraction(-6), (0, 0): Fraction(1)}), unit(2))):
            for limit in (1, 2, 3, 4, 5, 6, 8, 9, 10, 12, 15, 16, 17, 20, 21, 30, 45, 60):
                word = self.assert_right(one, box, limit)
                counts[word] = counts.get(word, 0) + 1
        self.assertGreater(min(counts.get("so", 0), counts.get("many", 0)), 5)

    def test_where_no_limit_is_handed_in(self):
        # The sums leave just twenty boxes in some layer, or twenty-one.
        for share, wanted in ((4, "so"), (416, "so"), (428, "so"), (432, "many"), (512, "many")):
            one = model.made(2, {(2, 2): Fraction(9), (1, 1): Fraction(-6), (0, 0): 1 + Fraction(1, share)})
            self.assert_right(one, unit(2), 20, wanted)
            if wanted == "many":
                self.assert_right(one, unit(2), 21, "so")
                with self.assertRaises(TooMany):
                    never_in(one, handed(unit(2)))
            else:
                self.assertEqual(never_in(one, handed(unit(2))), never_in(one, handed(unit(2)), 20))
        self.assertEqual(never_in(model.constant(2, -1), handed(unit(2)))[0], "below")
        with self.assertRaises(TooMany):
            never_in(dip(1, Fraction(1, 3)), handed(unit(1)))

    def test_long_fractions(self):
        rolls = model.dice(221)
        for many in (1, 2, 3):
            one = boxlists.any_of_powers(rolls, many, boxlists.LAYER_POWERS[many], long=True)
            box = boxlists.any_box(rolls, many, long=True)
            self.assert_right(one, box, 5)
            least = min(boxlists.worth(one, spot) for spot in boxlists.corners(box))
            self.assert_right(above(one, -least), box, 2)

    def test_by_name(self):
        line = handed(unit(1))
        self.assertEqual(never_in(one=dip(1, HALF), box=line, limit=1), ("so", (0, "all", "all")))
        self.assertEqual(never_in(limit=1, box=line, one=model.letter_sum(1, 0)), ("so", "all"))
        self.assertEqual(never_in(box=line, one=model.constant(1, 1)), ("so", "all"))


class NearlyIn(Case):
    def assert_right(self, one, box, gap, limit):
        word, high = boxlists.walk_nearly(one, box, gap, limit)
        if word == "many":
            with self.assertRaises(TooMany):
                nearly_in(one, handed(box), model.pair(gap), limit)
            return word
        told = nearly_in(one, handed(box), model.pair(gap), limit)
        self.assertIs(type(told), tuple)
        number, spot, tree = told
        self.assertTrue(model.is_pair(number) and type(spot) is tuple and all(model.is_pair(place) for place in spot))
        self.assert_tree(tree, one[0], limit)
        self.assertTrue(boxlists.right_nearly_in(one, handed(box), model.pair(gap), told))
        self.assertIs(is_nearly_in(one, handed(box), model.pair(gap), told), True)
        return word

    def test_numbers_alone(self):
        for many in (1, 2, 3):
            for number in (0, 5, Fraction(-1, 10**200)):
                for gap in (Fraction(1, 10**300), 1, 10**300):
                    self.assert_right(model.constant(many, number), unit(many), Fraction(gap), 1)

    def test_whatever_comes(self):
        words = {"told": 0, "many": 0}
        gaps = (10**6, 2, Fraction(1, 3), Fraction(1, 40), Fraction(1, 10**4), Fraction(1, 10**9))
        for at, (one, box, rolls) in enumerate(self.any_sums(230, 45)):
            words[self.assert_right(one, box, Fraction(gaps[at % 6]), rolls.choice(LIMITS))] += 1
        self.assertGreater(words["told"], 60)
        self.assertGreater(words["many"], 1)

    def test_the_limit(self):
        counts = {"told": 0, "many": 0}
        for one in (dip(2, Fraction(1, 3), Fraction(2, 3)), model.made(2, {(2, 2): Fraction(9), (1, 1): Fraction(-6)})):
            for gap in (Fraction(1, 10), Fraction(1, 1000)):
                for limit in (1, 2, 3, 4, 5, 6, 7, 8, 9, 10, 12, 14, 20, 30, 45, 60):
                    counts[self.assert_right(one, unit(2), gap, limit)] += 1
        self.assertGreater(min(counts.values()), 5)

    def test_three_letters_with_squares(self):
        for letter in range(3):
            alone = model.square_of(model.total(3, model.letter_sum(3, letter), model.constant(3, -HALF)))
            for limit in (1, 2, 4, 8):
                for gap in (Fraction(1, 3), Fraction(1, 100)):
                    self.assert_right(alone, unit(3), gap, limit)

    def test_a_number_just_at_high_less_the_gap_is_not_left(self):
        # Both halves have a like least number: the gap to it leaves none of them, a smaller one leaves two.
        quarters = [model.straight(1, 1, -Fraction(at, 4)) for at in (1, 3)]
        one = model.square_of(model.made(1, model.multiplied(*[model.table_of(root) for root in quarters])))
        lower, upper = boxlists.halves(unit(1), 0)
        self.assertEqual(min(boxlists.numbers_in(one, lower)), min(boxlists.numbers_in(one, upper)))
        gap = boxlists.worth(one, (HALF,)) - min(boxlists.numbers_in(one, lower))
        self.assertLess(min(boxlists.numbers_in(one, unit(1))), boxlists.worth(one, (Fraction(0),)) - gap)
        self.assertEqual(self.assert_right(one, unit(1), gap, 1), "told")
        self.assertEqual(self.assert_right(one, unit(1), gap - Fraction(1, 10**30), 1), "many")
        self.assertEqual(self.assert_right(one, unit(1), gap - Fraction(1, 10**30), 2), "told")

    def test_the_fortieth_layer(self):
        for power in (60, 74, 76, 77, 78, 79, 80, 90, 200):
            for place in (Fraction(1, 3), HALF, Fraction(1, 7)):
                self.assert_right(dip(1, place), unit(1), Fraction(1, 2**power), 7)

    def test_where_no_limit_is_handed_in(self):
        ridge = model.made(2, {(2, 2): Fraction(9), (1, 1): Fraction(-6)})
        for share, wanted in ((4, "told"), (416, "told"), (428, "told"), (432, "many"), (508, "many")):
            gap = Fraction(1, share)
            self.assertEqual(self.assert_right(ridge, unit(2), gap, 20), wanted)
            if wanted == "many":
                self.assertEqual(self.assert_right(ridge, unit(2), gap, 21), "told")
                with self.assertRaises(TooMany):
                    nearly_in(ridge, handed(unit(2)), model.pair(gap))
            else:
                self.assertEqual(nearly_in(ridge, handed(unit(2)), model.pair(gap)), nearly_in(ridge, handed(unit(2)), model.pair(gap), 20))

    def test_long_fractions(self):
        rolls = model.dice(231)
        for many in (1, 2, 3):
            one = boxlists.any_of_powers(rolls, many, boxlists.LAYER_POWERS[many], long=True)
            box = boxlists.any_box(rolls, many, long=True)
            for gap in (Fraction(1, 10**299), abs(model.any_number(rolls, long=True)), Fraction(10**300)):
                self.assert_right(one, box, gap, 20)

    def test_by_name(self):
        line = handed(unit(1))
        told = nearly_in(one=dip(1, HALF), box=line, gap=(1, 4), limit=1)
        self.assertIs(is_nearly_in(one=dip(1, HALF), box=line, gap=(1, 4), told=told), True)
        self.assertIs(is_nearly_in(told=((1, 1), ((0, 1),), "all"), gap=(1, 4), box=line, one=dip(1, HALF)), False)
        self.assertEqual(nearly_in(gap=(1, 4), box=line, one=dip(1, HALF)), told)


class IsNearlyIn(Case):
    def assert_told(self, wanted, one, box, gap, told):
        box, gap = handed(box), model.pair(gap)
        before = copy.deepcopy((box, told))
        if wanted is not None:
            self.assertIs(boxlists.right_nearly_in(one, box, gap, told), wanted)
        self.assertIs(is_nearly_in(one, box, gap, told), boxlists.right_nearly_in(one, box, gap, told))
        self.assertEqual((box, told), before)

    def test_written_out(self):
        middle = dip(1, HALF)
        cut = (0, "all", "all")
        half, nought = ((1, 2),), (0, 1)
        self.assert_told(True, middle, unit(1), 1, (nought, half, cut))
        self.assert_told(True, middle, unit(1), Fraction(1, 4), (nought, ((0, 1),), cut))
        self.assert_told(True, middle, unit(1), Fraction(1, 4), (nought, ((1, 1),), cut))
        self.assert_told(True, middle, unit(1), Fraction(1, 4), ((-1, 4), half, "all"))
        self.assert_told(True, middle, unit(1), Fraction(1, 16), (nought, ((1, 4),), (0, cut, (0, "all", cut))))
        self.assert_told(False, middle, unit(1), 1, (nought, half, "all"))
        self.assert_told(False, middle, unit(1), 1, ((1, 10**30), half, cut))
        self.assert_told(False, middle, unit(1), Fraction(1, 4), ((-1, 10**30), ((0, 1),), cut))
        self.assert_told(False, middle, unit(1), Fraction(1, 16), (nought, ((1, 5),), cut))
        self.assert_told(False, middle, unit(1), 10, (nought, ((-1, 10**30),), cut))
        self.assert_told(False, middle, unit(1), 10, (nought, ((10**30 + 1, 10**30),), cut))
        for spot in ((), ((1, 2), (1, 2))):
            self.assert_told(False, middle, unit(1), 10, (nought, spot, cut))
        flat = model.constant(2, 3)
        self.assert_told(True, flat, unit(2), Fraction(1, 10**30), ((3, 1), ((1, 3), (1, 1)), (1, "all", (0, "all", "all"))))
        self.assert_told(False, flat, unit(2), Fraction(1, 10**30), ((3, 1), ((1, 3), (2, 1)), "all"))
        self.assert_told(False, flat, unit(2), Fraction(1, 10**30), ((3, 1), ((-1, 3), (1, 1)), "all"))
        self.assert_told(False, flat, unit(2), Fraction(1, 10**30), ((2, 1), ((1, 3), (1, 1)), "all"))
        self.assert_told(False, flat, unit(2), 5, ((4, 1), ((1, 3), (1, 1)), "all"))

    def test_told_ones_otherwise(self):
        for at, (one, box, rolls) in enumerate(self.any_sums(240, 24)):
            gap = (Fraction(3), Fraction(1, 5), Fraction(1, 300))[at % 3]
            if boxlists.walk_nearly(one, box, gap, 20)[0] == "many":
                continue
            number, spot, tree = nearly_in(one, handed(box), model.pair(gap), 20)
            self.assert_told(True, one, box, gap, (number, spot, tree))
            for by in (Fraction(1, 10**30), Fraction(-1, 10**30), 1, -gap, gap):
                self.assert_told(None, one, box, gap, (model.pair(Fraction(*number) + by), spot, tree))
            self.assert_told(False, one, box, gap, (model.pair(Fraction(*number) + 3 * gap), spot, tree))
            self.assert_told(False, one, box, gap, (model.pair(Fraction(*number) - 3 * gap), spot, tree))
            for letter in range(one[0]):
                for place in (box[letter][0] - 1, box[letter][1] + Fraction(1, 10**30)):
                    other = spot[:letter] + (model.pair(place),) + spot[letter + 1:]
                    self.assert_told(False, one, box, gap, (number, other, tree))
                for place in (box[letter][0], box[letter][1], sum(box[letter]) / 2):
                    self.assert_told(None, one, box, gap, (number, spot[:letter] + (model.pair(place),) + spot[letter + 1:], tree))
            for other in ("all", (0, "all", "all"), (0, tree, tree), (one[0] - 1, "all", tree)):
                self.assert_told(None, one, box, gap, (number, spot, other))


if __name__ == "__main__":
    unittest.main()
