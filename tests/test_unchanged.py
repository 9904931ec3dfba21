"""Point 2: what was handed in is as it was, behind tellings and refusals."""

import copy
import unittest
from fractions import Fraction

import model
from lowwater.divisors import common, quotient
from lowwater.errors import NoQuotient, NotSecond, NotStraight, NoText, TooGreat
from lowwater.fractions import added, beside, divided, is_fraction, less, multiplied
from lowwater.lowest import is_lowest, lowest
from lowwater.parts import parts, split
from lowwater.reach import is_reach, reach
from lowwater.rims import is_over, kept, over
from lowwater.squares import are_squares, squares
from lowwater.sums import degree, is_sum, plus, put_in, scaled, slope, times, worth
from lowwater.sumtexts import read, shown


def lists_in(told):
    """All lists that stand in what was told."""
    found = [told] if isinstance(told, list) else []
    if isinstance(told, (list, tuple)):
        for part in told:
            found += lists_in(part)
    return found


class Case(unittest.TestCase):
    def assert_kept(self, deed, *handed):
        before = copy.deepcopy(handed)
        told = deed(*handed)
        self.assertEqual(handed, before)
        self.assertEqual(deed(*before), told)

    def assert_kept_refusing(self, refusal, deed, *handed):
        before = copy.deepcopy(handed)
        with self.assertRaises(refusal):
            deed(*handed)
        self.assertEqual(handed, before)

    def assert_own(self, deed, *handed):
        """What is told is the asker's own: no list of it is one with another, or with what was handed in."""
        told = deed(*handed)
        wanted = copy.deepcopy(told)
        again = deed(*handed)
        lists = lists_in(told) + lists_in(again) + lists_in(handed)
        self.assertEqual(len({id(one) for one in lists}), len(lists))
        for one in lists_in(told):
            one.append("more")
            one.reverse()
        self.assertEqual(again, wanted)
        self.assertEqual(deed(*handed), wanted)
        for one in lists_in(again):
            one.clear()
        self.assertEqual(deed(*handed), wanted)


class Unchanged(Case):
    def test_anything(self):
        for thing in ([1, 2], [[1, [2]], (1, [2])], (1, [((1,), (1, 2))]), [1, []], (1, (([1], [1, 2]),)), [None, "a"]):
            self.assert_kept(is_fraction, thing)
            self.assert_kept(is_sum, thing)

    def test_fractions(self):
        for deed in (added, less, multiplied, divided, beside):
            self.assert_kept(deed, (1, 2), (-3, 4))
        self.assert_kept_refusing(NoQuotient, divided, (1, 2), (0, 1))

    def test_sums(self):
        one = model.made(2, {(0, 1): Fraction(1, 2), (1, 1): -3})
        other = model.made(2, {(0, 0): 1, (0, 1): Fraction(-1, 2)})
        self.assert_kept(degree, one)
        self.assert_kept(plus, one, other)
        self.assert_kept(times, one, other)
        self.assert_kept(scaled, one, (0, 1))
        self.assert_kept(slope, one, 1)
        self.assert_kept(worth, one, ((1, 2), (-2, 3)))
        high = model.letter_sum(1, 0, 9)
        self.assert_kept_refusing(TooGreat, times, high, high)
        full = model.first_terms(4, 500)
        self.assert_kept_refusing(TooGreat, plus, full, model.letter_sum(4, 0, 16))

    def test_put_in_and_its_list(self):
        one = model.made(2, {(0, 1): Fraction(1, 2), (1, 1): -3})
        self.assert_kept(put_in, one, [model.letter_sum(3, 0, 2), model.letter_sum(3, 1, 3)])
        self.assert_kept_refusing(TooGreat, put_in, one, [model.letter_sum(3, 0, 9), model.letter_sum(3, 1, 9)])
        product = model.made(2, {(1, 1): 1})
        many = [model.first_terms(4, 126, 5), model.first_terms(4, 400, 8)]
        self.assert_kept_refusing(TooGreat, put_in, product, many)

    def test_the_list_is_not_kept(self):
        one = model.made(1, {(0,): 1, (2,): 3})
        others = [model.letter_sum(1, 0, 2)]
        told = put_in(one, others)
        others[0] = (1, ())
        others.append((1, ()))
        self.assertEqual(told, model.made(1, {(0,): 1, (4,): 3}))
        self.assertEqual(put_in(one, [model.letter_sum(1, 0, 2)]), told)

    def test_texts(self):
        self.assert_kept(shown, model.made(2, {(0, 1): Fraction(1, 2), (1, 1): -3}))
        self.assert_kept(read, "1 a + 1/2 b", 2)
        self.assert_kept_refusing(NoText, read, "1 b + 1 a", 2)


class Seconds(Case):
    def setUp(self):
        self.so = model.made(2, {(2, 0): Fraction(1), (1, 1): Fraction(1, 2), (0, 2): Fraction(3), (0, 0): Fraction(1)})
        self.falls = model.made(2, {(1, 1): Fraction(1), (0, 0): Fraction(1)})

    def test_handed_in(self):
        high = model.letter_sum(2, 0, 3)
        for deed in (squares, lowest):
            self.assert_kept(deed, self.so)
            self.assert_kept(deed, self.falls)
            self.assert_kept_refusing(NotSecond, deed, high)
        self.assert_kept(are_squares, self.so, squares(self.so)[1])
        self.assert_kept(are_squares, self.falls, [((-1, 1), self.falls), ((0, 1), self.so)])
        self.assert_kept(are_squares, self.so, [])
        for told in (lowest(self.so), lowest(self.falls), ("least", (0, 1), ((0, 1), (0, 1)), [((-1, 1), self.so)])):
            self.assert_kept(is_lowest, self.so, told)
            self.assert_kept(is_lowest, self.falls, told)

    def test_told(self):
        for one in (self.so, self.falls, (2, ()), model.constant(2, 1), model.letter_sum(2, 0, 2)):
            self.assert_own(squares, one)
            self.assert_own(lowest, one)


class Rims(Case):
    def setUp(self):
        self.corner = [model.straight(2, 1, 0, 0), model.straight(2, 0, 1, Fraction(1, 2))]
        self.apart = [model.straight(2, 1, 1, -2), model.straight(2, -1, -1, 1), model.straight(2, 0, 3, 1)]
        self.sums = [model.straight(2, 1, 2, 3), model.straight(2, 1, 2, 0), model.straight(2, 1, -2, 3), (2, ())]
        self.bent = model.letter_sum(2, 1, 2)

    def test_handed_in(self):
        for rims in (self.corner, self.apart):
            self.assert_kept(kept, rims)
            self.assert_kept_refusing(NotStraight, kept, rims + [self.bent])
            for one in self.sums:
                for deed in (over, reach):
                    self.assert_kept(deed, one, rims)
                    self.assert_kept_refusing(NotStraight, deed, one, [self.bent] + rims)
                    self.assert_kept_refusing(NotStraight, deed, self.bent, rims)

    def test_looked_at(self):
        for rims in (self.corner, self.apart):
            for one in self.sums:
                for told in (kept(rims), over(one, rims), reach(one, rims), ("none", []), ("so", (1, 1), [(-1, 1), (1, 1)])):
                    self.assert_kept(is_over, None, rims, told)
                    self.assert_kept(is_over, one, rims, told)
                    self.assert_kept(is_reach, one, rims, told)

    def test_told(self):
        for rims in (self.corner, self.apart):
            self.assert_own(kept, rims)
            for one in self.sums:
                self.assert_own(over, one, rims)
                self.assert_own(reach, one, rims)

    def test_the_rims_are_not_kept(self):
        rims = list(self.corner)
        told = reach(self.sums[0], rims)
        rims[0] = (2, ())
        rims.append((2, ()))
        self.assertEqual(reach(self.sums[0], self.corner), told)


class OneLetter(Case):
    def setUp(self):
        self.one = model.made(1, {(0,): Fraction(1, 2), (1,): Fraction(1), (2,): Fraction(1, 2)})
        self.other = model.made(1, {(0,): Fraction(-3), (1,): Fraction(-3)})

    def test_handed_in(self):
        for deed in (quotient, common):
            self.assert_kept(deed, self.one, self.other)
            self.assert_kept(deed, self.other, self.one)
        self.assert_kept_refusing(NoQuotient, quotient, self.one, (1, ()))
        self.assert_kept_refusing(NoQuotient, common, (1, ()), (1, ()))
        for deed in (parts, split):
            self.assert_kept(deed, self.one)
            self.assert_kept_refusing(NoQuotient, deed, (1, ()))

    def test_told(self):
        for one in (self.one, self.other, model.constant(1, 2), model.letter_sum(1, 0, 3)):
            self.assert_own(parts, one)
            self.assert_own(split, one)


if __name__ == "__main__":
    unittest.main()
