"""Point 23: rows and their sums."""

import copy
import unittest
from fractions import Fraction

import model
from lowwater.errors import LowwaterError, NoRow
from lowwater.rows import row_sums

ONE = model.constant(1, 1)
LETTER = model.letter_sum(1, 0)


def multiplied(one, other):
    return model.made(one[0], model.multiplied(model.table_of(one), model.table_of(other)))


def sums_of(many, rims, rows):
    """The rows' sums, multiplied out by the test."""
    found = []
    for row in rows:
        if row[0] == "rim":
            found.append(rims[row[1]])
        elif row[0] == "number":
            found.append(model.constant(many, Fraction(*row[1])))
        elif row[0] == "square":
            found.append(multiplied(row[1], row[1]))
        elif row[0] == "plus":
            found.append(model.total(many, found[row[1]], found[row[2]]))
        else:
            found.append(multiplied(found[row[1]], found[row[2]]))
    return found


class Case(unittest.TestCase):
    def assert_right(self, many, rims, rows):
        before = copy.deepcopy((rims, rows))
        told = row_sums(many, rims, rows)
        self.assertIs(type(told), list)
        self.assertTrue(all(model.is_made(one, many) for one in told))
        self.assertEqual(told, sums_of(many, rims, rows))
        self.assertEqual((rims, rows), before)
        return told

    def assert_refused(self, wanted, many, rims, rows):
        before = copy.deepcopy((rims, rows))
        for turn in range(2):
            with self.assertRaises(NoRow) as caught:
                row_sums(many, rims, rows)
            self.assertIs(type(caught.exception.row), int)
            self.assertEqual(caught.exception.row, wanted)
            self.assertIsInstance(caught.exception, LowwaterError)
        self.assertEqual((rims, rows), before)


class Right(Case):
    def test_no_rows(self):
        for many in (1, 2, 3, 4):
            self.assertEqual(row_sums(many, [], []), [])
            self.assertEqual(row_sums(many, [model.letter_sum(many, 0)], []), [])

    def test_each_kind(self):
        rims = [LETTER, model.constant(1, -3), model.letter_sum(1, 0, 16)]
        rows = [("rim", 0), ("rim", 1), ("rim", 2), ("number", (0, 1)), ("number", (7, 3)), ("square", model.straight(1, -2, 5)), ("square", (1, ())),
                ("plus", 0, 1), ("plus", 5, 5), ("times", 0, 5), ("times", 9, 9), ("times", 3, 2), ("plus", 0, 0), ("plus", 12, 11)]
        self.assert_right(1, rims, rows)

    def test_rims_of_any_degree(self):
        rolls = model.dice(250)
        for many in (1, 2, 3, 4):
            rims = [model.any_sum(rolls, many, 4, 5) for turn in range(8)]
            rows = [("rim", at) for at in range(8)] + [("times", 0, 7), ("plus", 8, 3), ("rim", 7)]
            self.assert_right(many, rims, rows)

    def test_whatever_comes(self):
        rolls = model.dice(251)
        for turn in range(60):
            many = 1 + turn % 4
            rims = [model.any_sum(rolls, many, 2, 3) for rim in range(turn % 5)]
            rows, degrees = [], []
            while len(rows) < 25:
                word = rolls.choice(("rim", "number", "square", "plus", "times"))
                if word == "rim" and rims:
                    rows.append(("rim", rolls.randrange(len(rims))))
                elif word == "number":
                    rows.append(("number", model.pair(abs(model.any_number(rolls)))))
                elif word == "square":
                    rows.append(("square", model.any_sum(rolls, many, 2, 3)))
                elif word in ("plus", "times") and rows:
                    first, second = rolls.randrange(len(rows)), rolls.randrange(len(rows))
                    if word == "times" and degrees[first] + degrees[second] > 8:
                        continue
                    rows.append((word, first, second))
                else:
                    continue
                degrees.append(max((sum(powers) for powers, number in sums_of(many, rims, rows)[-1][1]), default=0))
            self.assert_right(many, rims, rows)

    def test_three_hundred_rows(self):
        rows = [("rim", 0), ("number", (1, 3))] + [("plus", at, at % 7) for at in range(1, 299)]
        self.assertEqual(len(rows), 300)
        self.assert_right(2, [model.letter_sum(2, 1)], rows)
        self.assert_right(1, [], [("number", (at, 1)) for at in range(400)])

    def test_never_below_where_the_rims_are_not(self):
        rolls = model.dice(252)
        rims = [model.straight(2, 1, 0, 1), model.straight(2, -1, 2, 3)]
        rows = [("rim", 0), ("rim", 1), ("times", 0, 1), ("square", model.straight(2, 3, -5, Fraction(1, 7))), ("times", 2, 3), ("plus", 4, 0),
                ("number", (2, 9)), ("times", 6, 5)]
        told = self.assert_right(2, rims, rows)
        for turn in range(100):
            spot = tuple(model.pair(model.any_number(rolls)) for letter in range(2))
            if all(model.worth(model.table_of(rim), spot) >= 0 for rim in rims):
                self.assertTrue(all(model.worth(model.table_of(one), spot) >= 0 for one in told))

    def test_by_name(self):
        self.assertEqual(row_sums(many=1, rims=[LETTER], rows=[("rim", 0)]), [LETTER])
        with self.assertRaises(NoRow):
            row_sums(rows=[("rim", 1)], rims=[LETTER], many=1)


GOOD = [("rim", 0), ("number", (1, 2)), ("square", LETTER)]
WRONG = (
    # Other words, other kinds of things.
    None, True, 0, 3, "rim", "", (), [], ("rim",), ("ring", 0), ("Rim", 0), ("", 0), (0, 0), (None, 0), (["rim"], 0), (("rim",), 0), ("rim 0",), (("rim", 0),),
    [("rim", 0)], ["rim", 0], ["number", (1, 2)], ["square", LETTER], ["plus", 0, 0], ["times", 0, 0], ("so", 0), ("row", 0, 0), ("minus", 0, 0), ("less", 0, 0),
    # Too few or too many things.
    ("rim", 0, 0), ("rim", 0, None), ("number",), ("number", (1, 2), (1, 2)), ("number", 1, 2), ("square",), ("square", LETTER, LETTER), ("plus",), ("plus", 0),
    ("plus", 0, 0, 0), ("times",), ("times", 0), ("times", 0, 0, 0), ("plus", (0, 0)), ("times", [0, 0]),
    # Numbers that are none.
    ("rim", True), ("rim", False), ("rim", "0"), ("rim", None), ("rim", (0,)), ("rim", [0]), ("rim", (0, 1)), ("plus", True, 0), ("plus", 0, False), ("plus", "0", 0),
    ("times", 0, "1"), ("times", None, 0), ("times", 0, None), ("times", False, True), ("plus", (0, 1), 0), ("times", 0, [1]),
    # Rims and rows that aren't there.
    ("rim", -1), ("rim", 2), ("rim", 10**299), ("rim", -10**299), ("plus", 3, 0), ("plus", 0, 3), ("plus", 4, 0), ("plus", -1, 0), ("plus", 0, -1),
    ("times", 3, 0), ("times", 0, 3), ("times", 0, 10**299), ("times", -1, 0), ("times", 0, -3), ("times", -10**299, 0),
    # Fractions that are none, or below 0.
    ("number", 1), ("number", 0), ("number", None), ("number", "1"), ("number", "1/2"), ("number", (-1, 2)), ("number", (-1, 10**299)), ("number", (2, 4)),
    ("number", (0, 2)), ("number", (1, 0)), ("number", (1, -2)), ("number", (-1, -2)), ("number", (True, 2)), ("number", (1, True)), ("number", (1,)),
    ("number", (1, 2, 3)), ("number", [1, 2]), ("number", ()), ("number", ("1", "2")), ("number", LETTER), ("number", ((1, 2),)),
    # Sums that are none, or of other letters.
    ("square", None), ("square", 1), ("square", (1, 2)), ("square", "1 a"), ("square", ()), ("square", [1, ()]), ("square", (1, [])), ("square", (True, ())),
    ("square", (2, ())), ("square", model.letter_sum(2, 0)), ("square", (0, ())), ("square", (5, ())), ("square", (1, (((1,), (0, 1)),))),
    ("square", (1, (((1,), (2, 4)),))), ("square", (1, (((-1,), (1, 1)),))), ("square", (1, (((1,), (1, 1)), ((0,), (1, 1))))), ("square", (1, (((1,), (1, 1)),) * 2)),
    ("square", (1, (((17,), (1, 1)),))), ("square", (1, (((1, 0), (1, 1)),))), ("square", (1, (([1], (1, 1)),))), ("square", (1, (((1,), 1),))),
)


def deep(depth):
    thing = ()
    for turn in range(depth):
        thing = (thing,) if turn % 2 else [thing]
    return thing


class Wrong(Case):
    def test_rows_that_are_none(self):
        rims = [LETTER, ONE]
        self.assert_right(1, rims, GOOD)
        for row in WRONG + (("square", deep(37)), deep(38), ("number", deep(37)), tuple(["rim"] * 15000), ("plus", deep(30), deep(30))):
            self.assert_refused(3, 1, rims, GOOD + [row])
            self.assert_refused(3, 1, rims, GOOD + [row] + GOOD + [None, row])
            self.assert_refused(0, 1, [LETTER], [row if row != ("rim", 0) else None] + GOOD)

    def test_the_first_row_has_none_ahead(self):
        for row in (("plus", 0, 0), ("times", 0, 0), ("plus", -1, -1), ("times", 1, 1), ("rim", 0)):
            self.assert_refused(0, 1, [], [row])
            self.assert_refused(0, 1, [], [row, ("number", (1, 1))])

    def test_a_row_is_not_its_own_earlier_one(self):
        for at in range(1, 6):
            rows = [("number", (1, 1))] * at
            self.assert_right(1, [], rows + [("plus", at - 1, at - 1)])
            for word in ("plus", "times"):
                self.assert_refused(at, 1, [], rows + [(word, at, at - 1)])
                self.assert_refused(at, 1, [], rows + [(word, at - 1, at)])
                self.assert_refused(at, 1, [], rows + [(word, at + 1, 0), ("number", (1, 1))])

    def test_other_letters(self):
        for many in (1, 2, 3, 4):
            for other in (1, 2, 3, 4):
                rows = [("number", (1, 1)), ("square", model.letter_sum(other, 0))]
                if other == many:
                    self.assert_right(many, [], rows)
                else:
                    self.assert_refused(1, many, [], rows)

    def test_the_last_of_three_hundred(self):
        rows = [("number", (1, 1))] * 299
        self.assert_right(1, [], rows + [("times", 298, 0)])
        self.assert_refused(299, 1, [], rows + [("times", 299, 0)])


class TooMuch(Case):
    def test_degrees(self):
        for many in (1, 4):
            top = [("square", model.letter_sum(many, many - 1, 8)), ("rim", 0)]
            rims = [model.letter_sum(many, 0)]
            self.assert_right(many, rims, top)
            self.assert_refused(2, many, rims, top + [("times", 0, 1)])
            self.assert_refused(2, many, rims, top + [("times", 0, 0)])
            self.assert_right(many, rims, top + [("number", (0, 1)), ("times", 0, 2)])
            self.assert_refused(0, many, rims, [("square", model.letter_sum(many, 0, 9))])
            self.assert_refused(1, many, rims, [("number", (1, 1)), ("square", model.letter_sum(many, 0, 16))])
            self.assert_refused(3, many, rims, [("rim", 0), ("square", model.letter_sum(many, 0, 8)), ("plus", 0, 1), ("times", 2, 0), None])

    def test_terms(self):
        full = model.first_terms(4, 500)
        rest = [model.made(4, {powers: Fraction(1)}) for powers in model.all_powers(4, 16)[499:501]]
        rims = [full] + rest
        self.assert_right(4, rims, [("rim", 0), ("rim", 1), ("plus", 0, 1)])
        self.assert_refused(3, 4, rims, [("rim", 0), ("rim", 1), ("rim", 2), ("plus", 0, 2), ("plus", 0, 1)])
        spread = model.first_terms(4, 126, 5)
        self.assert_refused(1, 4, [spread], [("rim", 0), ("times", 0, 0)])
        self.assert_refused(0, 4, [spread], [("square", spread)])

    def test_figures(self):
        ten = 10**300
        for number in (Fraction(ten // 10), Fraction(1, ten // 10)):
            pair = model.pair(number)
            # Nine factors of three hundred figures, then a tenth with which it has just three thousand, or one more.
            rows = [("number", pair)] + [("times", at, 0) for at in range(9)]
            rows = self.grown(rows, 9, number, 2999 - 299 * 10)
            told = self.assert_right(1, [], rows)
            longest = max(abs(part) for part in told[-1][1][0][1])
            self.assertEqual(longest, 10**2999)
            last = len(rows) - 1
            by_ten = model.pair(10 if number > 1 else Fraction(1, 10))
            self.assert_refused(last + 2, 1, [], rows + [("number", by_ten), ("times", last, last + 1)])
            self.assert_right(1, [], rows + [("number", model.pair(1 / Fraction(*by_ten))), ("times", last, last + 1)])

    def grown(self, rows, at, number, figures):
        """The rows with one more that has so many figures more than the one at a place."""
        factor = Fraction(10**figures) if number > 1 else Fraction(1, 10**figures)
        return rows + [("number", model.pair(factor)), ("times", at, len(rows))]

    def test_the_greatest_number_of_three_thousand_figures(self):
        rims = [model.constant(1, 10**3000 - 1), model.constant(1, 10**3000), model.constant(1, -10**3000 + 1), model.constant(1, -10**3000),
                model.constant(1, Fraction(1, 10**3000 - 1)), model.constant(1, Fraction(-1, 10**3000)),
                model.total(1, LETTER, model.constant(1, 10**3000)), model.total(1, model.constant(1, 5), model.made(1, {(3,): Fraction(7, 10**3000)}))]
        for at in (0, 2, 4):
            self.assert_right(1, rims, [("rim", at)])
        for at in (1, 3, 5, 6, 7):
            self.assert_refused(1, 1, rims, [("rim", 0), ("rim", at)])
        self.assert_refused(2, 1, rims, [("rim", 0), ("number", (1, 1)), ("plus", 0, 1)])
        self.assert_refused(2, 1, rims, [("rim", 4), ("rim", 4), ("times", 0, 1)])
        self.assert_right(1, rims, [("rim", 0), ("number", (0, 1)), ("plus", 0, 1), ("rim", 2), ("plus", 0, 3)])
        third = model.made(1, {(0,): Fraction(10**1500 - 1), (1,): Fraction(1)})
        self.assert_right(1, rims, [("square", third)])
        self.assert_refused(0, 1, rims, [("square", model.made(1, {(0,): Fraction(10**1500), (1,): Fraction(1)}))])
        self.assert_refused(0, 1, rims, [("square", model.made(1, {(0,): Fraction(1), (1,): Fraction(1, 10**1500)}))])


if __name__ == "__main__":
    unittest.main()
