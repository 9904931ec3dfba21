"""Point 2 for layers, rows, turned papers and the desk: behind tellings and refusals."""

import unittest
from fractions import Fraction

import boxlists
import model
from lowwater.desk import Desk
from lowwater.errors import LowwaterError, NoRow, TooMany
from lowwater.layers import is_nearly_in, nearly_in, never_in
from lowwater.rows import row_sums
from lowwater.turned import rows_of_piece, rows_of_squares, rows_of_weights
from stretchlists import sum_of
from test_unchanged import Case


class Layers(Case):
    def test_never_and_nearly(self):
        rolls = model.dice(280)
        seen = set()
        for turn in range(40):
            many = 1 + turn % 3
            one = boxlists.any_of_powers(rolls, many, boxlists.LAYER_POWERS[many])
            one = model.total(many, one, model.constant(many, rolls.choice((0, 4, 12))))
            box = boxlists.handed(boxlists.any_box(rolls, many))
            try:
                seen.add(never_in(one, box, 5)[0])
                self.assert_kept(never_in, one, box, 5)
                self.assert_own(never_in, one, box, 5)
            except TooMany:
                self.assert_kept_refusing(TooMany, never_in, one, box, 5)
            try:
                told = nearly_in(one, box, (1, 7), 5)
            except TooMany:
                seen.add("many")
                self.assert_kept_refusing(TooMany, nearly_in, one, box, (1, 7), 5)
                continue
            self.assert_kept(nearly_in, one, box, (1, 7), 5)
            self.assert_own(nearly_in, one, box, (1, 7), 5)
            self.assert_kept(is_nearly_in, one, box, (1, 7), told)
            self.assert_kept(is_nearly_in, one, box, (1, 10**9), told)
        self.assertEqual(seen, {"so", "below", "many"})

    def test_the_box_is_not_kept(self):
        box = [((0, 1), (1, 1))]
        one = model.made(1, {(0,): Fraction(1, 4), (1,): Fraction(-1), (2,): Fraction(1)})
        told = never_in(one, box)
        box.append("more")
        box[0] = None
        self.assertEqual(never_in(one, [((0, 1), (1, 1))]), told)
        thirds = model.made(1, {(0,): Fraction(1, 9), (1,): Fraction(-2, 3), (2,): Fraction(1)})
        self.assert_kept_refusing(TooMany, never_in, thirds, [((0, 1), (1, 1))], 60)
        self.assert_kept_refusing(TooMany, nearly_in, thirds, [((0, 1), (1, 1))], (1, 10**40), 60)


class Rows(Case):
    def setUp(self):
        self.rims = [sum_of(0, 1), sum_of(3, -1)]
        self.rows = [("rim", 0), ("rim", 1), ("times", 0, 1), ("square", sum_of(1, 2)), ("plus", 2, 3), ("number", (1, 3)), ("times", 5, 4)]

    def test_row_sums(self):
        self.assert_kept(row_sums, 1, self.rims, self.rows)
        self.assert_own(row_sums, 1, self.rims, self.rows)
        for wrong in ([("rim", [0])], [["rim", 0], [[], ()]], ("square", [1, [[[1], [1, 1]]]]), None, ("plus", 0, [0])):
            self.assert_kept_refusing(NoRow, row_sums, 1, self.rims, self.rows + [wrong])

    def test_the_rims_are_not_kept(self):
        told = row_sums(1, self.rims, self.rows)
        rims, rows = list(self.rims), list(self.rows)
        first = row_sums(1, rims, rows)
        rims.clear()
        rows.clear()
        self.assertEqual(first, told)
        self.assertEqual(row_sums(1, self.rims, self.rows), told)

    def test_turned(self):
        some = [((1, 2), sum_of(1, 1)), ((0, 1), sum_of(3)), ((5, 1), sum_of(0, 0, 1))]
        for deed, handed in ((rows_of_squares, (some,)), (rows_of_squares, (some[:1],)), (rows_of_squares, ([],)),
                             (rows_of_weights, ((1, 3), self.rims, [(1, 1), (0, 1)])), (rows_of_piece, (sum_of(1), sum_of(1, 1), (0, 1), (1, 1))),
                             (rows_of_piece, (sum_of(0, 2), sum_of(1, 1), (0, 1), None))):
            self.assert_kept(deed, *handed)
            self.assert_own(deed, *handed)


class Told(unittest.TestCase):
    def test_the_desk_tells_the_same_again(self):
        rows = ("let x 2 1 a^2 + -3 a b + 4 b^2 + 1 b", "show x", "worth x 1 -2/3", "squares x", "lowest x", "let y 2 1 a + -1", "rim y", "kept", "over y", "reach y", "box x 0 1 0 1",
                "let z 1 1 a^3 + -1 a", "parts z", "never z 0 -", "rim x", "show none", "never z 1 0", "parts x", "let z 1 nothing", "box x 0 1 1 0", "show z", "bare", "kept")
        first, second = Desk(), Desk()
        for row in rows:
            told = [self.said(desk, row) for desk in (first, second)]
            self.assertEqual(told[0], told[1])
            # What was asked or refused again behind it changes nothing of it.
            if row.split(" ")[0] not in ("rim", "bare"):
                self.assertEqual(self.said(first, row), told[0])

    def said(self, desk, row):
        try:
            return desk.say(row)
        except LowwaterError as error:
            return type(error).__name__


if __name__ == "__main__":
    unittest.main()
