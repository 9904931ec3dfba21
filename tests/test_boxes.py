"""Point 20: the numbers of a sum in a box, and trees."""

import copy
import unittest
from fractions import Fraction

import boxlists
import model
from boxlists import handed
from lowwater.boxes import bears_tree, box_numbers

HALF = Fraction(1, 2)


class BoxNumbers(unittest.TestCase):
    def assert_right(self, one, box):
        told = box_numbers(one, handed(box))
        self.assertIs(type(told), list)
        self.assertTrue(all(model.is_pair(number) for number in told))
        self.assertEqual(len(told), len(boxlists.places_of(one)))
        self.assertTrue(boxlists.come_to(one, handed(box), told))
        self.assertEqual(told, [model.pair(number) for number in boxlists.numbers_in(one, box)])

    def test_written_out(self):
        unit = [((0, 1), (1, 1)), ((0, 1), (1, 1))]
        product = model.made(2, {(1, 1): Fraction(1), (0, 0): Fraction(3)})
        self.assertEqual(box_numbers(product, unit), [(3, 1), (3, 1), (3, 1), (4, 1)])
        leaning = model.made(2, {(2, 0): Fraction(1), (0, 1): Fraction(10)})
        self.assertEqual(box_numbers(leaning, [((1, 1), (2, 1)), ((0, 1), (1, 2))]), [(1, 1), (6, 1), (2, 1), (7, 1), (4, 1), (9, 1)])
        third = model.letter_sum(3, 2)
        self.assertEqual(box_numbers(third, unit + [((1, 3), (7, 2))]), [(1, 3), (7, 2)])
        self.assertEqual(box_numbers(model.letter_sum(1, 0, 4), [((-1, 1), (1, 1))]), [(1, 1), (-1, 1), (1, 1), (-1, 1), (1, 1)])

    def test_numbers_alone(self):
        rolls = model.dice(200)
        for many in (1, 2, 3):
            for number in (0, 5, Fraction(-1, 10**300)):
                self.assertEqual(box_numbers(model.constant(many, number), handed(boxlists.any_box(rolls, many))), [model.pair(number)])

    def test_all_powers(self):
        rolls = model.dice(201)
        for many in (1, 2, 3):
            for turn in range(60):
                most = turn % (boxlists.BOX_POWERS[many] + 1)
                one = boxlists.any_of_powers(rolls, many, most, share=(0.3, 0.7, 1)[turn % 3])
                self.assert_right(one, boxlists.any_box(rolls, many))

    def test_letters_that_stand_in_no_term(self):
        rolls = model.dice(202)
        for many in (2, 3):
            for letter in range(many):
                for power in (1, 2):
                    one = model.total(many, model.letter_sum(many, letter, power), model.constant(many, -HALF))
                    self.assert_right(one, boxlists.any_box(rolls, many))

    def test_noughts_at_the_end_stand(self):
        one = model.made(1, {(0,): Fraction(1), (1,): Fraction(-2), (2,): Fraction(1)})
        self.assertEqual(box_numbers(one, [((0, 1), (1, 1))]), [(1, 1), (0, 1), (0, 1)])
        self.assertEqual(box_numbers(model.letter_sum(2, 0, 2), [((-1, 1), (0, 1)), ((0, 1), (1, 1))]), [(1, 1), (0, 1), (0, 1)])

    def test_long_fractions(self):
        rolls = model.dice(203)
        for many in (1, 2, 3):
            one = boxlists.any_of_powers(rolls, many, boxlists.BOX_POWERS[many], long=many < 3)
            self.assert_right(one, boxlists.any_box(rolls, many, long=many < 3))
        self.assert_right(boxlists.any_of_powers(rolls, 3, 1, long=True), boxlists.any_box(rolls, 3, long=True))

    def test_by_name(self):
        self.assertEqual(box_numbers(one=model.letter_sum(1, 0), box=[((0, 1), (1, 1))]), [(0, 1), (1, 1)])


class BearsTree(unittest.TestCase):
    def assert_told(self, one, box, tree, wanted=None):
        box_handed = handed(box)
        before = copy.deepcopy((box_handed, tree))
        told = bears_tree(one, box_handed, tree)
        self.assertIs(told, boxlists.bears(one, box, tree))
        self.assertEqual((box_handed, tree), before)
        if wanted is not None:
            self.assertIs(told, wanted)
        return told

    def test_all(self):
        rolls = model.dice(204)
        counts = {True: 0, False: 0}
        for turn in range(150):
            many = 1 + turn % 3
            one = boxlists.any_of_powers(rolls, many, turn % (boxlists.BOX_POWERS[many] + 1))
            one = model.total(many, one, model.constant(many, rolls.choice((0, 3, 30))))
            counts[self.assert_told(one, boxlists.any_box(rolls, many), "all")] += 1
        self.assertGreater(min(counts.values()), 40)

    def test_nought_is_not_below(self):
        for many in (1, 2, 3):
            box = [(Fraction(0), Fraction(1))] * many
            for letter in range(many):
                one = model.letter_sum(many, letter)
                self.assert_told(one, box, "all", True)
                self.assert_told(model.total(many, one, model.constant(many, Fraction(-1, 10**300))), box, "all", False)
                for tree in ("all", (letter, "all", "all"), ((letter + 1) % many, "all", "all")):
                    self.assert_told((many, ()), box, tree, True)
                    self.assert_told(model.constant(many, -1), box, tree, False)

    def test_which_half_and_which_letter(self):
        # Borne out only where each half is cut again, or only the lower or the upper one, by the one letter alone.
        dip = model.made(1, {(2,): Fraction(1), (1,): Fraction(-1, 2), (0,): Fraction(1, 16)})
        line = [(Fraction(0), Fraction(1))]
        self.assert_told(dip, line, "all", False)
        self.assert_told(dip, line, (0, "all", "all"), False)
        self.assert_told(dip, line, (0, "all", (0, "all", "all")), False)
        self.assert_told(dip, line, (0, (0, "all", "all"), "all"), True)
        mirrored = model.made(1, {(2,): Fraction(1), (1,): Fraction(-3, 2), (0,): Fraction(9, 16)})
        self.assert_told(mirrored, line, (0, (0, "all", "all"), "all"), False)
        self.assert_told(mirrored, line, (0, "all", (0, "all", "all")), True)
        for many in (2, 3):
            box = [(Fraction(0), Fraction(1))] * many
            for letter in range(many):
                one = model.total(many, model.letter_sum(many, letter, 2), model.constant(many, Fraction(1, 4)),
                                  model.made(many, {powers: -number for powers, number in model.table_of(model.letter_sum(many, letter)).items()}))
                for cut in range(many):
                    self.assert_told(one, box, (cut, "all", "all"), cut == letter)
                    other = (cut + 1) % many
                    self.assert_told(one, box, (cut, (other, "all", "all"), (other, "all", "all")), letter in (cut, other))
                    self.assert_told(one, box, (cut, (other, "all", "all"), "all"), cut == letter)

    def test_each_eighth_has_its_tree(self):
        # A sum that is 0 at an odd eighth alone is borne out just where it is cut there.
        trees = {1: (0, (0, (0, "all", "all"), "all"), "all"), 3: (0, (0, "all", (0, "all", "all")), "all"),
                 5: (0, "all", (0, (0, "all", "all"), "all")), 7: (0, "all", (0, "all", (0, "all", "all")))}
        for eighth in trees:
            place = Fraction(eighth, 8)
            square = model.square_of(model.straight(1, 1, -place))
            wide = model.made(2, {powers + (0,): number for powers, number in model.table_of(square).items()})
            late = model.made(2, {(0,) + powers: number for powers, number in model.table_of(square).items()})
            for other, tree in trees.items():
                self.assert_told(square, [(Fraction(0), Fraction(1))], tree, other == eighth)
                self.assert_told(wide, [(Fraction(0), Fraction(1)), (Fraction(-1), Fraction(3))], tree, other == eighth)
                self.assert_told(late, [(Fraction(0), Fraction(1)), (Fraction(-1), Fraction(3))], tree, False)

    def test_a_letter_that_the_box_does_not_have(self):
        line = [((0, 1), (1, 1))]
        for letter in (1, 2, -1):
            self.assertIs(bears_tree(model.constant(1, 1), line, (letter, "all", "all")), False)

    def test_any_trees(self):
        rolls = model.dice(205)
        counts = {True: 0, False: 0}
        for turn in range(160):
            many = 1 + turn % 3
            one = boxlists.any_of_powers(rolls, many, boxlists.BOX_POWERS[many] if turn % 2 else 1)
            one = model.total(many, one, model.constant(many, rolls.choice((3, 8, 20))))
            box = [(low, low + 1) for low, high in boxlists.any_box(rolls, many)]
            tree = boxlists.any_tree(rolls, many, turn % 13, 8)
            counts[self.assert_told(one, box, tree)] += 1
        self.assertGreater(min(counts.values()), 40)

    def test_deep_trees(self):
        for many in (1, 2, 3):
            box = [(Fraction(0), Fraction(1, 3))] * many
            flat = model.total(many, *[model.letter_sum(many, letter) for letter in range(many)])
            for sides in ((0,), (1,), (0, 1), (1, 1, 0)):
                tree = boxlists.comb_tree(many, 40, sides)
                self.assertEqual(boxlists.depth_of(tree), 40)
                self.assert_told(flat, box, tree, True)
            # Below 0 in the last corner alone, so that only the deepest box shows it, or all is borne out but it.
            for depth in (1, 2, 39, 40):
                tree = boxlists.comb_tree(many, depth)
                edge = Fraction(1, 3) / 2 ** ((depth + many - 1) // many)
                for shift, wanted in ((Fraction(0), True), (edge / 10**6, False)):
                    self.assert_told(model.total(many, model.letter_sum(many, 0), model.constant(many, -shift)), box, tree, wanted)

    def test_forty_within_one_another_are_needed(self):
        # (x - e)^2 with e so small that only a cut at e itself, the fortieth, bears it out.
        small = Fraction(1, 2**40)
        one = model.made(1, {(2,): Fraction(1), (1,): -2 * small, (0,): small**2})
        line = [(Fraction(0), Fraction(1))]
        for depth in range(36, 42):
            self.assert_told(one, line, boxlists.comb_tree(1, depth), depth >= 40)

    def test_two_hundred_and_forty_cuts(self):
        rolls = model.dice(206)
        for many in (1, 2, 3):
            box = boxlists.any_box(rolls, many)
            one = boxlists.any_of_powers(rolls, many, 1)
            for turn in range(3):
                tree = boxlists.any_tree(rolls, many, 240, 40)
                self.assert_told(model.total(many, one, model.constant(many, 300)), box, tree, True)
                self.assert_told(model.total(many, one, model.constant(many, rolls.choice((-300, 2, 5)))), box, tree)
        six = boxlists.comb_tree(1, 35)
        for turn in range(5):
            six = (0, boxlists.comb_tree(1, 39 - turn), six) if turn % 2 else (0, six, boxlists.comb_tree(1, 35))
        self.assert_told(model.letter_sum(1, 0, 4), [(Fraction(0), Fraction(1))], six, True)

    def test_long_fractions(self):
        rolls = model.dice(207)
        for many in (1, 2, 3):
            box = boxlists.any_box(rolls, many, long=True)
            one = boxlists.any_of_powers(rolls, many, boxlists.LAYER_POWERS[many], long=True)
            for tree in ("all", boxlists.comb_tree(many, 5), boxlists.any_tree(rolls, many, 9, 5)):
                self.assert_told(one, box, tree)
                self.assert_told(model.total(many, one, model.constant(many, 10**3000)), box, tree)

    def test_by_name(self):
        self.assertIs(bears_tree(one=model.letter_sum(1, 0), box=[((0, 1), (1, 1))], tree="all"), True)
        self.assertIs(bears_tree(tree=(0, "all", "all"), box=[((-1, 1), (1, 1))], one=model.letter_sum(1, 0)), False)


if __name__ == "__main__":
    unittest.main()
