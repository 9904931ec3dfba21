import unittest
from fractions import Fraction

import model
import rimlists
from lowwater.reach import is_reach, reach
from lowwater.rims import is_over, kept, over

TINY = Fraction(1, 10**20)
NOUGHT = (0, 1)


def other_numbers(number):
    """A fraction made less, greater, below 0, turned about."""
    number = Fraction(*number)
    return [model.pair(other) for other in (number - TINY, number + TINY, number - 1, number + 1, -number, -number - 1)]


def other_rows(row):
    """A tuple or list of fractions with one number otherwise, one more, one fewer, none, turned about."""
    kind = type(row)
    for at in range(len(row)):
        for number in other_numbers(row[at]):
            yield row[:at] + kind([number]) + row[at + 1:]
        yield row[:at] + row[at + 1:]
    for number in (NOUGHT, (1, 1), (-1, 1)):
        yield row + kind([number])
        yield kind([number]) + row
    yield kind([])
    yield row[::-1]
    yield kind([(-top, bottom) for top, bottom in row])
    yield kind([NOUGHT] * len(row))


def others(told):
    """What was told with one thing in it otherwise."""
    for at in range(1, len(told)):
        if at == 1 and told[0] in ("so", "least"):
            changed = other_numbers(told[at])
        else:
            changed = other_rows(told[at])
        for part in changed:
            yield told[:at] + (part,) + told[at + 1:]


class Case(unittest.TestCase):
    def assert_kept(self, rims, told, wanted=None):
        right = rimlists.right_kept(rims, told)
        self.assertIn(wanted, (None, right))
        self.assertIs(is_over(None, rims, told), right, (rims, told))

    def assert_over(self, one, rims, told, wanted=None):
        right = rimlists.right_over(one, rims, told)
        self.assertIn(wanted, (None, right))
        self.assertIs(is_over(one, rims, told), right, (one, rims, told))

    def assert_reach(self, one, rims, told, wanted=None):
        right = rimlists.right_reach(one, rims, told)
        self.assertIn(wanted, (None, right))
        self.assertIs(is_reach(one, rims, told), right, (one, rims, told))

    def assert_all(self, one, rims, told):
        self.assert_kept(rims, told)
        self.assert_over(one, rims, told)
        self.assert_reach(one, rims, told)


class WhatWasTold(Case):
    def test_as_it_is_and_otherwise(self):
        rolls = model.dice(120)
        for rims in rimlists.all_rims(121, 8, long=False)[::2]:
            tellings = [kept(rims)]
            self.assert_kept(rims, tellings[0], True)
            for one in rimlists.sums_for(rims, rolls, 1)[::3]:
                second, third = over(one, rims), reach(one, rims)
                self.assert_over(one, rims, second, True)
                self.assert_reach(one, rims, third, True)
                for told in tellings + [second, third]:
                    self.assert_all(one, rims, told)
                    for other in others(told):
                        self.assert_all(one, rims, other)

    def test_long_ones(self):
        rolls = model.dice(122)
        for many in (1, 2, 3):
            for rims in rimlists.long_ones(many, rolls, 4):
                for one in rimlists.sums_for(rims, rolls, 1)[:4]:
                    for told in (kept(rims), over(one, rims), reach(one, rims)):
                        self.assert_all(one, rims, told)
                        for other in list(others(told))[::5]:
                            self.assert_all(one, rims, other)


class ByHand(Case):
    def setUp(self):
        # A square from 0 to 1, and a and b from 0 on alone.
        self.square = [model.straight(2, 1, 0, 0), model.straight(2, 0, 1, 0), model.straight(2, -1, 0, 1), model.straight(2, 0, -1, 1)]
        self.corner = self.square[:2]
        self.apart = [model.straight(2, 1, 0, -2), model.straight(2, -1, 0, 1)]
        self.half = (1, 2)

    def test_kept(self):
        self.assert_kept(self.square, ("kept", (self.half, self.half)), True)
        self.assert_kept(self.square, ("kept", (NOUGHT, (1, 1))), True)
        self.assert_kept(self.square, ("kept", (NOUGHT, (10**20 + 1, 10**20))), False)
        self.assert_kept(self.square, ("kept", ((-1, 10**20), self.half)), False)
        self.assert_kept(self.square, ("kept", (self.half,)), False)
        self.assert_kept(self.square, ("kept", (self.half,) * 3), False)
        self.assert_kept(self.square, ("kept", ()), False)
        self.assert_kept(self.apart, ("kept", ((1, 1), (1, 1))), False)

    def test_none(self):
        for weights, wanted in (
            ([(1, 1), (1, 1)], True), ([(1, 1), (1, 2)], False), ([(2, 1), (2, 1)], False), ([(1, 1)], False), ([], False),
            ([(1, 1), (1, 1), NOUGHT], False), ([(-1, 1), (-1, 1)], False), ([NOUGHT, NOUGHT], False),
        ):
            for one in (None, (2, ()), model.straight(2, 1, 1, 1)):
                self.assertIs(is_over(one, self.apart, ("none", weights)), wanted)
            self.assert_reach((2, ()), self.apart, ("none", weights), wanted)
        doubled = self.apart + [rimlists.turned(self.apart[0])]
        self.assert_kept(doubled, ("none", [(1, 1), (1, 1), NOUGHT]), True)
        self.assert_kept(doubled, ("none", [(3, 1), (1, 1), (2, 1)]), True)
        # All comes to -1, but a weight is below 0.
        self.assert_kept([model.straight(2, 0, 0, 1), self.square[0]], ("none", [(-1, 1), NOUGHT]), False)
        self.assert_kept([model.straight(2, 0, 0, 1)], ("none", [(-1, 1)]), False)
        self.assert_kept([model.straight(2, 0, 0, Fraction(-1, 3))], ("none", [(3, 1)]), True)

    def test_so(self):
        one = model.straight(2, 2, 3, 5)
        self.assert_over(one, self.square, ("so", (5, 1), [(2, 1), (3, 1), NOUGHT, NOUGHT]), True)
        self.assert_over(one, self.square, ("so", (4, 1), [(3, 1), (3, 1), (1, 1), NOUGHT]), True)
        self.assert_over(one, self.square, ("so", NOUGHT, [(4, 1), (6, 1), (2, 1), (3, 1)]), True)
        self.assert_over(one, self.square, ("so", (-1, 1), [(5, 1), (6, 1), (3, 1), (3, 1)]), False)
        self.assert_over(one, self.square, ("so", (6, 1), [(1, 1), (3, 1), (-1, 1), NOUGHT]), False)
        self.assert_over(one, self.corner, ("so", (5, 1), [(2, 1), (3, 1)]), True)
        self.assert_over(one, self.corner, ("so", (5, 1), [(3, 1), (2, 1)]), False)
        self.assert_over(one, self.corner, ("so", (5, 1), [(2, 1), (3, 1), NOUGHT]), False)
        self.assert_over(one, self.corner, ("so", (5, 1), [(2, 1)]), False)
        self.assert_over((2, ()), self.corner, ("so", NOUGHT, [NOUGHT, NOUGHT]), True)

    def test_below(self):
        one = model.straight(2, 1, 1, -1)
        self.assert_over(one, self.square, ("below", (NOUGHT, NOUGHT)), True)
        self.assert_over(one, self.square, ("below", (self.half, (1, 3))), True)
        self.assert_over(one, self.square, ("below", (self.half, self.half)), False)
        self.assert_over(one, self.square, ("below", ((-1, 10**9), NOUGHT)), False)
        self.assert_over(one, self.square, ("below", (NOUGHT,)), False)
        self.assert_over(one, self.square, ("below", (NOUGHT,) * 3), False)
        self.assert_over(one, self.square, ("below", ()), False)

    def test_least(self):
        one = model.straight(2, 2, 3, 5)
        weights = [(2, 1), (3, 1), NOUGHT, NOUGHT]
        self.assert_reach(one, self.square, ("least", (5, 1), (NOUGHT, NOUGHT), weights), True)
        self.assert_reach(one, self.square, ("least", (5, 1), (NOUGHT, self.half), weights), False)
        self.assert_reach(one, self.square, ("least", (4, 1), (NOUGHT, NOUGHT), [(3, 1), (3, 1), (1, 1), NOUGHT]), False)
        self.assert_reach(one, self.square, ("least", (13, 2), (NOUGHT, self.half), weights), False)
        flat = model.straight(2, 2, 0, -5)
        for spot in ((NOUGHT, NOUGHT), (NOUGHT, (1, 1)), (NOUGHT, (2, 7))):
            self.assert_reach(flat, self.square, ("least", (-5, 1), spot, [(2, 1), NOUGHT, NOUGHT, NOUGHT]), True)
        self.assert_reach(flat, self.square, ("least", (-5, 1), (NOUGHT, (-1, 1)), [(2, 1), NOUGHT, NOUGHT, NOUGHT]), False)

    def test_falls(self):
        one = model.straight(2, 1, -1, 9)
        start = (NOUGHT, NOUGHT)
        self.assert_reach(one, self.corner, ("falls", start, (NOUGHT, (1, 1))), True)
        self.assert_reach(one, self.corner, ("falls", (self.half, (8, 3)), ((1, 1), (3, 2))), True)
        for way in ((NOUGHT, NOUGHT), (NOUGHT, (-1, 1)), ((-1, 1), NOUGHT), ((-1, 1), (1, 1)), ((1, 1), (1, 1)), ((2, 1), (1, 1)),
                    (NOUGHT,), (NOUGHT, (1, 1), NOUGHT), ()):
            self.assert_reach(one, self.corner, ("falls", start, way), False)
        for spot in (((-1, 10**9), NOUGHT), (NOUGHT, (-1, 1)), (NOUGHT,), (NOUGHT,) * 3, ()):
            self.assert_reach(one, self.corner, ("falls", spot, (NOUGHT, (1, 1))), False)
        self.assert_reach(one, self.square, ("falls", start, (NOUGHT, (1, 1))), False)
        self.assert_reach((2, ()), self.corner, ("falls", start, (NOUGHT, (1, 1))), False)

    def test_by_itself(self):
        # Nothing keeps these rims; a so is looked at by itself all the same.
        one = model.straight(2, 1, 0, 3)
        self.assert_over(one, self.apart, ("so", (5, 1), [(1, 1), NOUGHT]), True)
        self.assert_over(one, self.apart, ("so", (4, 1), [(2, 1), (1, 1)]), False)
        self.assert_over(one, self.apart, ("so", (6, 1), [(2, 1), (1, 1)]), True)
        self.assert_over(one, self.apart, ("below", ((1, 1), NOUGHT)), False)

    def test_texts_of_other_points(self):
        one = model.straight(2, 1, 1, 0)
        start = (NOUGHT, NOUGHT)
        bare = [NOUGHT] * 4
        self.assert_reach(one, self.square, ("least", NOUGHT, start, [(1, 1), (1, 1), NOUGHT, NOUGHT]), True)
        self.assertIs(is_over(one, self.square, ("least", NOUGHT, start, [(1, 1), (1, 1), NOUGHT, NOUGHT])), False)
        fall = model.straight(2, 0, -1, 0)
        self.assert_reach(fall, self.corner, ("falls", start, (NOUGHT, (1, 1))), True)
        self.assertIs(is_over(fall, self.corner, ("falls", start, (NOUGHT, (1, 1)))), False)
        self.assertIs(is_reach(one, self.square, ("so", NOUGHT, [(1, 1), (1, 1), NOUGHT, NOUGHT])), False)
        self.assertIs(is_reach(model.constant(2, -1), self.square, ("below", start)), False)
        self.assertIs(is_reach(one, self.square, ("kept", start)), False)
        self.assertIs(is_over(one, self.square, ("kept", start)), False)
        self.assertIs(is_over(None, self.square, ("so", NOUGHT, bare)), False)
        self.assertIs(is_over(None, self.square, ("below", start)), False)
        self.assertIs(is_over(None, self.square, ("least", NOUGHT, start, bare)), False)
        self.assertIs(is_over(None, self.square, ("falls", start, (NOUGHT, (1, 1)))), False)

    def test_by_name(self):
        self.assertIs(is_over(told=("kept", (NOUGHT, NOUGHT)), rims=self.square, one=None), True)
        self.assertIs(is_over(told=("so", NOUGHT, [NOUGHT, NOUGHT]), rims=self.corner, one=(2, ())), True)
        self.assertIs(is_reach(told=("least", NOUGHT, (NOUGHT, NOUGHT), [NOUGHT, NOUGHT]), rims=self.corner, one=(2, ())), True)


if __name__ == "__main__":
    unittest.main()
