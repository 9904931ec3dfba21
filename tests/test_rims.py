import unittest
from fractions import Fraction

import model
import rimlists
from lowwater.errors import LowwaterError, NotStraight
from lowwater.reach import is_reach, reach
from lowwater.rims import is_over, kept, over

KINDS = {
    "kept": (tuple,), "none": (list,), "so": (tuple, list), "below": (tuple,),
    "least": (tuple, tuple, list), "falls": (tuple, tuple),
}


class Case(unittest.TestCase):
    def assert_kinds(self, told, many, count):
        """What is told has the kinds and the lengths that the document tells."""
        self.assertIs(type(told), tuple)
        self.assertEqual(tuple(type(part) for part in told[1:]), KINDS[told[0]])
        parts = list(told[1:])
        if told[0] in ("so", "least"):
            self.assertTrue(model.is_pair(parts.pop(0)))
        for part in parts:
            self.assertEqual(len(part), many if type(part) is tuple else count)
            self.assertTrue(all(model.is_pair(number) for number in part))


class Kept(Case):
    def test_all_kinds(self):
        words = set()
        for rims in rimlists.all_rims():
            told = kept(rims)
            words.add((rims[0][0], told[0]))
            self.assertIn(told[0], ("kept", "none"))
            self.assert_kinds(told, rims[0][0], len(rims))
            self.assertTrue(rimlists.right_kept(rims, told), (rims, told))
            self.assertIs(is_over(None, rims, told), True)
        self.assertEqual(len(words), 6)

    def test_known_words(self):
        for many in (1, 2, 3):
            a = model.letter_sum(many, many - 1)
            for gap, wanted in ((1, "kept"), (Fraction(1, 10**99), "kept"), (0, "kept"), (Fraction(-1, 10**99), "none"), (-1, "none")):
                self.assertEqual(kept(rimlists.facing(a, gap))[0], wanted)
            for number, wanted in ((1, "kept"), (0, "kept"), (-1, "none"), (Fraction(-1, 10**299), "none")):
                self.assertEqual(kept([model.constant(many, number)])[0], wanted)
                self.assertEqual(kept([a, model.constant(many, number)])[0], wanted)
            self.assertEqual(kept([(many, ())])[0], "kept")

    def test_one_spot_alone(self):
        for many in (1, 2, 3):
            spot = ((-7, 2), (0, 1), (10**200, 3))[:many]
            edges = [model.total(many, model.letter_sum(many, letter), model.constant(many, -Fraction(*spot[letter])))
                     for letter in range(many)]
            rims = [rim for edge in edges for rim in rimlists.facing(edge, 0)]
            self.assertEqual(kept(rims), ("kept", spot))
            corner = edges + [rimlists.turned(model.total(many, *edges))]
            self.assertEqual(kept(corner), ("kept", spot))

    def test_somewhat_beyond(self):
        rolls = model.dice(111)
        for many in (1, 2, 3):
            for turn in range(20):
                rims = [rimlists.any_straight(rolls, many) for rim in range(7 if many == 3 else 8)]
                self.assertTrue(rimlists.right_kept(rims, kept(rims)))

    def test_by_name(self):
        self.assertEqual(kept(rims=[(1, ())])[0], "kept")
        with self.assertRaises(NotStraight):
            kept(rims=[model.letter_sum(1, 0, 2)])


class OverAndReach(Case):
    def assert_right(self, one, rims):
        many, count = one[0], len(rims)
        first, second, third = kept(rims), over(one, rims), reach(one, rims)
        self.assertIn(second[0], ("none", "so", "below"))
        self.assertIn(third[0], ("none", "least", "falls"))
        self.assert_kinds(second, many, count)
        self.assert_kinds(third, many, count)
        self.assertTrue(rimlists.right_over(one, rims, second), (one, rims, second))
        self.assertTrue(rimlists.right_reach(one, rims, third), (one, rims, third))
        self.assertIs(is_over(one, rims, second), True)
        self.assertIs(is_reach(one, rims, third), True)
        self.assertEqual((second[0] == "none", third[0] == "none"), (first[0] == "none",) * 2)
        if first[0] != "none":
            self.assertEqual(second[0] == "so", third[0] == "least" and third[1][0] >= 0)
        return many, second[0], third[0]

    def test_all_kinds(self):
        rolls = model.dice(112)
        words = set()
        for rims in rimlists.all_rims(113, 30):
            for one in rimlists.sums_for(rims, rolls):
                words.add(self.assert_right(one, rims))
        wanted = {("none", "none"), ("so", "least"), ("below", "least"), ("below", "falls")}
        self.assertEqual(words, {(many,) + pair for many in (1, 2, 3) for pair in wanted})

    def test_known_numbers(self):
        square = [model.straight(2, 1, 0, 0), model.straight(2, 0, 1, 0), model.straight(2, -1, 0, 1), model.straight(2, 0, -1, 1)]
        for numbers, wanted in (((1, 1, 0), 0), ((-1, -1, 0), -2), ((Fraction(1, 2), -3, 5), 2), ((0, 0, 7), 7), ((0, 0, 0), 0)):
            one = model.straight(2, *numbers)
            self.assertEqual(reach(one, square)[:2], ("least", model.pair(wanted)))
            self.assertEqual(over(one, square)[0], "below" if wanted < 0 else "so")
            self.assert_right(one, square)
        self.assertEqual(reach(model.straight(2, 1, -1, 0), square[:2])[0], "falls")
        self.assertEqual(over(model.straight(2, 1, -1, 0), square[:2])[0], "below")
        self.assertEqual(over(model.straight(2, 1, -1, 10**50), square[:2])[0], "below")

    def test_the_least_is_exact(self):
        rolls = model.dice(114)
        for many in (1, 2, 3):
            for turn in range(10):
                spot = [model.any_number(rolls, long=turn == 9) for letter in range(many)]
                edges = [model.total(many, model.letter_sum(many, letter), model.constant(many, -spot[letter])) for letter in range(many)]
                weights = [abs(model.any_number(rolls)) + 1 for letter in range(many)]
                table = model.weighed(many, [(weight, model.table_of(edge)) for weight, edge in zip(weights, edges)])
                number = model.any_number(rolls)
                one = model.total(many, model.made(many, table), model.constant(many, number))
                told = reach(one, edges)
                wanted = ("least", model.pair(number), tuple(map(model.pair, spot)), list(map(model.pair, weights)))
                self.assertEqual(told, wanted)

    def test_somewhat_beyond(self):
        rolls = model.dice(115)
        for many in (1, 2, 3):
            for turn in range(8):
                rims = [rimlists.any_straight(rolls, many) for rim in range(7)]
                for one in rimlists.sums_for(rims, rolls, 1):
                    self.assert_right(one, rims)

    def test_by_name(self):
        self.assertEqual(over(rims=[(1, ())], one=(1, ()))[0], "so")
        self.assertEqual(reach(rims=[(1, ())], one=(1, ()))[0], "least")
        with self.assertRaises(NotStraight):
            over(rims=[model.letter_sum(1, 0, 2)], one=(1, ()))
        with self.assertRaises(NotStraight):
            reach(rims=[model.letter_sum(1, 0, 2)], one=(1, ()))


class Bent(Case):
    def assert_refused(self, deed, *handed):
        for turn in range(2):
            with self.assertRaises(NotStraight) as caught:
                deed(*handed)
            self.assertIsInstance(caught.exception, LowwaterError)

    def test_at_any_place(self):
        rolls = model.dice(116)
        for many in (1, 2, 3):
            bent = [model.letter_sum(many, many - 1, 2), model.total(many, model.letter_sum(many, 0, 3), model.letter_sum(many, 0))]
            if many > 1:
                bent.append(model.made(many, {(1, 1) + (0,) * (many - 2): Fraction(1)}))
            for wrong in bent:
                for count in (1, 3, 6):
                    rims = [rimlists.single(rolls, many) for rim in range(count)]
                    told = kept(rims)
                    one = rimlists.any_straight(rolls, many)
                    for at in range(count):
                        crooked = rims[:at] + [wrong] + rims[at + 1:]
                        before = list(crooked)
                        self.assert_refused(kept, crooked)
                        for deed in (over, reach):
                            self.assert_refused(deed, one, crooked)
                            self.assert_refused(deed, wrong, crooked)
                        self.assertEqual(crooked, before)
                    for deed in (over, reach):
                        self.assert_refused(deed, wrong, rims)
                    self.assertEqual(kept(rims), told)

    def test_also_where_nothing_keeps_the_rims(self):
        rims = [model.constant(1, -1), model.letter_sum(1, 0)]
        for deed in (over, reach):
            self.assert_refused(deed, model.letter_sum(1, 0, 2), rims)
            self.assertEqual(deed(model.letter_sum(1, 0), rims)[0], "none")
        self.assert_refused(kept, rims + [model.letter_sum(1, 0, 2)])


if __name__ == "__main__":
    unittest.main()
