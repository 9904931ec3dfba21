"""Point 2 for stretches and boxes: what was handed in is as it was, and what is told is the asker's own."""

import unittest
from fractions import Fraction

import boxlists
import model
import stretchlists
from lowwater.boxes import bears_tree, box_numbers
from lowwater.pieces import are_pieces, numbers
from lowwater.stretches import is_nearly, nearly, never
from stretchlists import cut_pieces, ends_of, product, sum_of
from test_unchanged import Case

VALLEY = sum_of(1, 0, 1)
NEAR = model.total(1, product(sum_of(-1, 3), sum_of(-1, 3)), sum_of(Fraction(1, 10**9)))
SUMS = (sum_of(), sum_of(2), sum_of(-2), VALLEY, NEAR, product(NEAR, VALLEY), product(VALLEY, sum_of(0, 1)), sum_of(0, 0, 1))


class Stretches(Case):
    def test_numbers(self):
        for one in SUMS:
            for stretch in stretchlists.STRETCHES[:-1]:
                self.assert_kept(numbers, one, *ends_of(stretch))
                self.assert_own(numbers, one, *ends_of(stretch))

    def test_are_pieces(self):
        for some in (cut_pieces(VALLEY, -1, 0, 1), cut_pieces(VALLEY, -1, 1), cut_pieces(VALLEY, 0, 1, 2)[::-1], []):
            self.assert_kept(are_pieces, VALLEY, (-1, 1), (1, 1), some)

    def test_never(self):
        for one in SUMS:
            for stretch in stretchlists.STRETCHES:
                self.assert_kept(never, one, *ends_of(stretch))
                self.assert_own(never, one, *ends_of(stretch))

    def test_nearly(self):
        for one in SUMS:
            for stretch in stretchlists.STRETCHES[:4]:
                for gap in ((1, 3), (1, 10**20)):
                    self.assert_kept(nearly, one, *ends_of(stretch), gap)
                    self.assert_own(nearly, one, *ends_of(stretch), gap)
                    told = nearly(one, *ends_of(stretch), gap)
                    self.assert_kept(is_nearly, one, *ends_of(stretch), gap, told)
                    self.assert_kept(is_nearly, one, *ends_of(stretch), gap, (told[0], told[1], told[2][::-1]))

    def test_several_pieces_are_told(self):
        self.assertGreater(len(never(NEAR, (0, 1), (1, 1))[3]), 1)
        self.assertGreater(len(nearly(NEAR, (0, 1), (1, 1), (1, 10**20))[2]), 1)
        self.assertGreater(len(never((1, ()), None, None)[3]), 1)


class Boxes(Case):
    def test_box_numbers(self):
        rolls = model.dice(210)
        for many in (1, 2, 3):
            for most in (0, 1, 2):
                one = boxlists.any_of_powers(rolls, many, most)
                box = boxlists.handed(boxlists.any_box(rolls, many))
                self.assert_kept(box_numbers, one, box)
                self.assert_own(box_numbers, one, box)

    def test_bears_tree(self):
        rolls = model.dice(211)
        for many in (1, 2, 3):
            one = boxlists.any_of_powers(rolls, many, 2)
            box = boxlists.handed(boxlists.any_box(rolls, many))
            for tree in ("all", boxlists.comb_tree(many, 4, (0, 1)), boxlists.any_tree(rolls, many, 6, 4)):
                self.assert_kept(bears_tree, one, box, tree)

    def test_the_box_is_not_kept(self):
        box = [((0, 1), (1, 1))]
        told = box_numbers(model.letter_sum(1, 0), box)
        box[0] = ((5, 1), (6, 1))
        self.assertEqual(told, [(0, 1), (1, 1)])
        self.assertEqual(box_numbers(model.letter_sum(1, 0), box), [(5, 1), (6, 1)])


if __name__ == "__main__":
    unittest.main()
