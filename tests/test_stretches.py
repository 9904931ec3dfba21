"""Point 18, and point 3 for sums of one letter: always a square and a rest with pieces, or a spot below 0."""

import unittest
from fractions import Fraction

import model
import stretchlists
from lowwater.stretches import never
from stretchlists import ends_of, product, sum_of
from test_parts import nothing_in_common, slope

HALF = Fraction(1, 2)
TINY = stretchlists.TINY
NOUGHT = sum_of()
WORDS = {True: "so", False: "below"}


def root_at(place, times=1):
    """A sum with a root at this place, so many times."""
    return product(*[sum_of(-Fraction(place), 1)] * times)


def pair_at(place, height):
    """A square's rest: nowhere 0, but it comes near it at the place."""
    return model.total(1, root_at(place, 2), sum_of(height))


class Never(unittest.TestCase):
    def assert_split(self, one, root, rest):
        """The split of point 15: the root's and the rest's parts stand once, the sum's odd ones in the rest."""
        if one == NOUGHT:
            self.assertEqual((root, rest), (sum_of(1), NOUGHT))
            return
        self.assertEqual(product(root, root, rest), one)
        self.assertEqual(root[1][-1][1], (1, 1))
        self.assertTrue(stretchlists.degree(rest) == 0 or nothing_in_common(rest, slope(rest)))

    def assert_right(self, one, low, high, wanted=None):
        low, high = ends_of((low, high))
        told = never(one, low, high)
        self.assertIs(type(told), tuple)
        if told[0] == "so":
            word, root, rest, pieces = told
            self.assertTrue(model.is_made(root, 1) and model.is_made(rest, 1))
            self.assert_split(one, root, rest)
            self.assertIs(type(pieces), list)
            self.assertTrue(all(type(piece) is tuple and type(piece[2]) is list for piece in pieces))
            self.assertTrue(all(model.is_pair(number) for piece in pieces for number in piece[2]))
            self.assertTrue(stretchlists.right_pieces(rest, low, high, pieces))
        else:
            word, spot = told
            self.assertEqual(word, "below")
            self.assertTrue(type(spot) is tuple and model.is_pair(spot[0]))
            self.assertTrue(stretchlists.is_within(low, high, spot))
            self.assertLess(stretchlists.worth(one, spot), 0)
        if wanted is not None:
            self.assertEqual(told[0], WORDS[wanted])
        return told

    def test_numbers_alone(self):
        for stretch in stretchlists.STRETCHES:
            for number in (1, HALF, 10**300, Fraction(1, 10**300), 0):
                self.assert_right(sum_of(number), *stretch, True)
                self.assert_right(sum_of(-number), *stretch, number == 0)

    def test_squares(self):
        for stretch in stretchlists.STRETCHES:
            for place in (0, 1, HALF, -2, Fraction(7, 9), Fraction(1, 3)):
                for times in (2, 4, 6, 8):
                    self.assert_right(root_at(place, times), *stretch, True)
                    self.assert_right(product(sum_of(-1), root_at(place, times)), *stretch, False)
            square = product(*[sum_of(-1, 1, 1, Fraction(1, 3))] * 2)
            self.assert_right(square, *stretch, True)
            self.assert_right(product(square, sum_of(-TINY)), *stretch, False)

    def test_roots_at_and_beside_the_ends(self):
        for low, high in stretchlists.STRETCHES:
            for times in (1, 3, 5, 7):
                for beyond in (0, TINY, HALF, 10**6):
                    if low is not None:
                        self.assert_right(root_at(low - beyond, times), low, high, True)
                        self.assert_right(product(sum_of(-1), root_at(low - beyond, times)), low, high, False)
                        if beyond and (high is None or low + beyond < high):
                            self.assert_right(root_at(low + beyond, times), low, high, False)
                    if high is not None:
                        self.assert_right(product(sum_of(-1), root_at(high + beyond, times)), low, high, True)
                        self.assert_right(root_at(high + beyond, times), low, high, False)
                        if beyond and (low is None or low < high - beyond):
                            self.assert_right(product(sum_of(-1), root_at(high - beyond, times)), low, high, False)

    def test_nought_at_both_ends(self):
        low, high = Fraction(-1, 3), Fraction(5, 7)
        hill = product(sum_of(-1), root_at(low), root_at(high))
        self.assert_right(hill, low, high, True)
        self.assert_right(hill, low, high + TINY, False)
        self.assert_right(hill, low - TINY, high, False)
        self.assert_right(hill, low, None, False)
        self.assert_right(hill, None, high, False)
        self.assert_right(product(hill, hill, hill), low, high, True)
        self.assert_right(product(hill, pair_at(HALF, TINY), root_at(HALF, 4)), low, high, True)
        self.assert_right(product(hill, pair_at(HALF, TINY), root_at(HALF, 3)), low, high, False)
        self.assert_right(product(sum_of(-1), hill), low, high, False)
        self.assert_right(product(sum_of(-1), hill), high, None, True)
        self.assert_right(product(sum_of(-1), hill), None, low, True)

    def test_touching_between(self):
        for low, high in stretchlists.STRETCHES:
            middle = HALF if (low, high) == (0, 1) else Fraction(2, 7) + (low if low is not None else (high or 0) - 1)
            for factor in (sum_of(1), pair_at(middle, 1), pair_at(0, HALF), pair_at(middle, TINY)):
                self.assert_right(product(root_at(middle, 2), factor), low, high, True)
                self.assert_right(product(root_at(middle, 4), factor), low, high, True)
                self.assert_right(product(root_at(middle, 3), factor), low, high, False)
                lower = product(model.total(1, root_at(middle, 2), sum_of(-TINY)), factor)
                self.assert_right(lower, low, high, False)
                self.assert_right(product(model.total(1, root_at(middle, 2), sum_of(TINY)), factor), low, high, True)

    def test_roots_close_together(self):
        for gap in (Fraction(1, 10**3), TINY, Fraction(1, 10**150)):
            near, far = Fraction(1, 3), Fraction(1, 3) + gap
            two = product(root_at(near), root_at(far))
            for stretch in ((0, 1), (0, None), (None, 1), (None, None), (near, far), (near, None), (None, far)):
                self.assert_right(two, *stretch, False)
                self.assert_right(product(two, two), *stretch, True)
                self.assert_right(product(two, root_at(HALF, 2), pair_at(0, gap)), *stretch, False)
            for stretch in ((far, 1), (far, None), (None, near), (0, near)):
                self.assert_right(two, *stretch, True)
                self.assert_right(product(two, sum_of(-1)), *stretch, False)
            self.assert_right(product(two, sum_of(-1)), near, far, True)
            self.assert_right(product(two, sum_of(-1), pair_at((near + far) / 2, gap ** 2)), near, far, True)

    def test_coming_near_nought(self):
        for height in (1, Fraction(1, 10**6), Fraction(1, 10**100), Fraction(1, 10**300)):
            for place in (0, HALF, Fraction(1, 3), Fraction(-10, 7)):
                near = pair_at(place, height)
                for stretch in stretchlists.STRETCHES:
                    self.assert_right(near, *stretch, True)
            several = product(pair_at(0, height), pair_at(Fraction(1, 3), height), pair_at(-5, 1))
            self.assert_right(several, None, None, True)
            self.assert_right(several, -1, 1, True)
            depth = stretchlists.worth(several, ((0, 1),))
            self.assert_right(stretchlists.less_number(several, depth + height ** 2), -1, 1, False)
            self.assert_right(stretchlists.less_number(several, depth * (1 - HALF)), -1, 0, True)

    def test_the_root_is_nought_where_the_rest_is_below(self):
        for times in (2, 4):
            dip = product(sum_of(-1), root_at(0, times))
            for stretch in ((0, 1), (-1, 0), (0, None), (None, 0), (None, None), (-1, 1), (-TINY, 0), (0, TINY)):
                self.assert_right(dip, *stretch, False)
                self.assert_right(product(dip, root_at(1, 2), root_at(-1, 2)), *stretch, False)
            # Below 0 in a small place alone, and the root is 0 in its midst and at its end.
            small = product(root_at(-TINY), root_at(TINY), root_at(0, times))
            for stretch in ((0, 1), (-1, 0), (None, None), (0, TINY)):
                self.assert_right(small, *stretch, False)

    def test_far_away(self):
        for one in (sum_of(10**30, 0, -1), sum_of(10**200, 1, 0, Fraction(-1, 10**100)), sum_of(1, 10**50, 10**50, -TINY)):
            self.assert_right(one, 0, None, False)
            self.assert_right(one, 0, 1, True)
        self.assert_right(sum_of(10**60, 0, 0, TINY), None, 0, False)
        self.assert_right(sum_of(10**60, 0, 0, TINY), 0, None, True)
        self.assert_right(sum_of(10**60, 0, -10**20, 0, TINY), None, None, False)
        self.assert_right(product(*[pair_at(10**60, 1)] * 2, pair_at(-10**90, 1)), None, None, True)
        self.assert_right(product(pair_at(10**60, 1), root_at(10**60 + 1), root_at(10**60)), None, None, False)

    def test_all_degrees(self):
        rolls = model.dice(180)
        words = {"so": 0, "below": 0}
        for turn in range(240):
            one = stretchlists.any_of_degree(rolls, turn % 9)
            if turn % 2:
                one = model.total(1, one, model.constant(1, rolls.randint(0, 30)), sum_of(0, 0, 9))
            for stretch in stretchlists.STRETCHES[turn % 3::3] + (stretchlists.any_stretch(rolls),):
                words[self.assert_right(one, *stretch)[0]] += 1
        self.assertGreater(min(words.values()), 150)

    def test_products_of_roots(self):
        rolls = model.dice(181)
        for turn in range(150):
            low, high = sorted(rolls.sample([Fraction(top, 6) for top in range(-12, 13)], 2))
            roots, left = [], 8
            while left > 0 and len(roots) < 4:
                times = rolls.randint(1, min(left, 4))
                roots.append((rolls.choice((low, high, low - TINY, high + TINY, (low + high) / 2, low + TINY, Fraction(rolls.randint(-12, 12), 6))), times))
                left -= times
            number = rolls.choice((1, -1))
            one = product(sum_of(number), *[root_at(place, times) for place, times in roots])
            stretch = rolls.choice(((low, high), (low, None), (None, high), (None, None)))
            self.assert_right(one, *stretch, self.known(number, roots, *stretch))

    def known(self, number, roots, low, high):
        """Whether a product of roots is never below 0 in a stretch, by its worths between the places and its ends."""
        places = sorted({place for place, times in roots} | {end for end in (low, high) if end is not None})
        spots = [places[0] - 1, places[-1] + 1] + places + [(one + other) / 2 for one, other in zip(places, places[1:])]
        for spot in spots:
            if (low is None or low <= spot) and (high is None or spot <= high):
                worth = Fraction(number)
                for place, times in roots:
                    worth *= (spot - place) ** times
                if worth < 0:
                    return False
        return True

    def test_long_fractions(self):
        rolls = model.dice(182)
        for most in (1, 2, 3, 5):
            one = stretchlists.any_of_degree(rolls, most, long=True)
            self.assert_right(one, *stretchlists.any_stretch(rolls, long=True))
            self.assert_right(one, None, None)
        self.assert_right(stretchlists.any_of_degree(rolls, 8, long=True), 0, None)
        place, height = Fraction(rolls.randint(1, 10**80), 10**80 + 9), Fraction(1, 10**80)
        low, high = place - Fraction(1, 10**299), place + 10**299
        for stretch in ((low, high), (low, None), (None, high), (None, None), (place, high)):
            self.assert_right(product(pair_at(place, height), pair_at(0, 1)), *stretch, True)
            self.assert_right(root_at(place, 4), *stretch, True)
            self.assert_right(root_at(place, 3), *stretch, stretch[0] == place)

    def test_by_name(self):
        self.assertEqual(never(one=sum_of(-1), low=(0, 1), high=(1, 1))[0], "below")
        self.assertEqual(never(high=None, low=None, one=sum_of(1))[0], "so")


if __name__ == "__main__":
    unittest.main()
