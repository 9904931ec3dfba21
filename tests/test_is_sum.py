import unittest

import model
from lowwater.sums import degree, is_sum

HALF = (1, 2)


class IsSum(unittest.TestCase):
    def assert_all(self, wanted, things):
        for thing in things:
            with self.subTest(str(thing)[:200]):
                self.assertIs(is_sum(thing), wanted)

    def test_letters(self):
        self.assert_all(True, [(many, ()) for many in (1, 2, 3, 4)])
        self.assert_all(False, [(many, ()) for many in (0, 5, -1, 10**299, True, False, None, "1", "", (1,), [1], 1.0)])
        self.assert_all(True, [(many, (((0,) * many, HALF),)) for many in (1, 2, 3, 4)])
        self.assert_all(False, [(many, (((0,) * many, HALF),)) for many in (0, 5)])
        self.assert_all(False, [(True, (((0,), HALF),))])

    def test_fractions(self):
        rights = [(1, 1), (-1, 1), (3, 7), (-3, 7), (10**299, 10**299 + 1), (-10**299, 3)]
        wrongs = [
            (0, 1), (0, 2), (2, 4), (1, 0), (1, -2), (-1, -2), (True, 1), (1, True), (True, True), (False, 1), (True, 2),
            (), (1,), (1, 2, 3), 1, 0, True, None, "", "1", "1/2", ("1", "2"), (None, 1), ((1, 2), 1), [1, 2], 0.5,
        ]
        for many, powers in ((1, (1,)), (2, (0, 3)), (3, (1, 1, 1)), (4, (0, 0, 0, 0))):
            self.assert_all(True, [(many, ((powers, number),)) for number in rights])
            self.assert_all(False, [(many, ((powers, number),)) for number in wrongs])

    def test_a_wrong_term_behind_right_ones(self):
        right = ((0, 1), HALF)
        last = ((5, 0), HALF)
        self.assert_all(True, [(2, (right, ((1, 1), HALF), last))])
        for wrong in (((1, 1), (0, 1)), ((1, 1), (2, 4)), ((1, True), HALF), [(1, 1), HALF], ([1, 1], HALF), None, ()):
            self.assert_all(False, [(2, (right, wrong, last)), (2, (right, wrong)), (2, (wrong, last))])

    def test_powers(self):
        self.assert_all(True, [(2, (((0, 0), HALF),)), (2, (((16, 0), HALF),)), (2, (((7, 9), HALF),))])
        wrongs = [
            (-1, 0), (0, -1), (-1, 5), (True, 0), (0, True), (False, 0), (0, False), (True, True), (None, 0), (0, "0"),
            ("", 0), ((1,), 0), (0, [1]), (0.0, 1), (), (1,), (1, 1, 1), (0, 0, 0), [0, 1], None, 0, 1, True, "01", "",
            (10**299, 0), (0, -10**299), (10**299, -10**299),
        ]
        self.assert_all(False, [(2, ((powers, HALF),)) for powers in wrongs])

    def test_powers_one_more_or_fewer_than_letters(self):
        for many in (1, 2, 3, 4):
            self.assert_all(False, [(many, (((1,) * (many + 1), HALF),)), (many, (((1,) * (many - 1), HALF),))])

    def test_degree_bound(self):
        for many in (1, 2, 3, 4):
            for at in range(many):
                powers = tuple(16 if at == place else 0 for place in range(many))
                more = tuple(17 if at == place else 0 for place in range(many))
                self.assert_all(True, [(many, ((powers, HALF),))])
                self.assert_all(False, [(many, ((more, HALF),)), (many, (((0,) * many, HALF), (more, HALF)))])
        self.assert_all(True, [(4, (((4, 4, 4, 4), HALF),)), (3, (((5, 5, 6), HALF),))])
        self.assert_all(False, [(4, (((4, 4, 4, 5), HALF),)), (2, (((16, 1), HALF),)), (3, (((6, 5, 6), HALF),))])

    def test_terms_bound(self):
        chosen = model.all_powers(4, 16)
        for start in (0, 1000, len(chosen) - 501):
            terms = tuple((powers, HALF) for powers in chosen[start:start + 501])
            self.assert_all(True, [(4, terms[:499]), (4, terms[:500]), (4, terms[1:])])
            self.assert_all(False, [(4, terms)])

    def test_rising(self):
        low, middle, high = ((0, 2), HALF), ((1, 0), HALF), ((1, 1), HALF)
        self.assert_all(True, [(2, (low, middle, high)), (2, (low, high)), (2, (low, middle))])
        self.assert_all(False, [
            (2, (middle, low, high)), (2, (low, high, middle)), (2, (high, middle, low)), (2, (middle, low)),
            (2, (low, low)), (2, (low, middle, middle)), (2, (low, ((0, 2), (1, 3)))), (2, (low, middle, low)),
        ])
        # Rising goes by the powers themselves, not by what they come to together.
        self.assert_all(True, [(2, (((0, 9), HALF), ((1, 0), HALF)))])
        self.assert_all(False, [(2, (((1, 0), HALF), ((0, 9), HALF)))])

    def test_lists_for_tuples(self):
        self.assert_all(True, [(1, (((1,), (1, 2)),))])
        self.assert_all(False, [
            [1, (((1,), (1, 2)),)], (1, [((1,), (1, 2))]), (1, ([(1,), (1, 2)],)), (1, (([1], (1, 2)),)),
            (1, (((1,), [1, 2]),)), [1, ()], (1, []), [1, []], [], (1, ([],)), (1, [[]]),
        ])

    def test_lengths(self):
        term = ((1,), HALF)
        self.assert_all(False, [
            (), (1,), (1, (), ()), (1, (term,), 0), ((term,), 1), (1, ((),)), (1, (((1,),),)), (1, (((1,), HALF, 1),)),
            (1, term), (1, ((HALF, (1,)),)), ((1, (term,)),),
        ])

    def test_other_kinds(self):
        self.assert_all(False, [
            None, True, False, 0, 1, 10**299, -1, "", "a", "ab", "1 a", 1.5, {}, {1: ()}, set(), b"ab", object(),
            (1, None), (1, 0), (1, True), (1, ""), (1, "ab"), (1, {}), (1, (None,)), (1, (0,)), (1, ("ab",)), (1, ("",)),
            (1, 1), (None, None), ((), ()), ("ab", "cd"), [(1, ())],
        ])
        deep = ()
        for _ in range(39):
            deep = (1, (deep,))
        self.assert_all(False, [deep, (1, deep), tuple(range(19999)), (4, tuple(range(19990))), (4, ((),) * 19990)])
        self.assert_all(False, [(4, (((1,) * 19000, HALF),)), (4, (((0, 0, 0, 0), (1,) * 19000),))])

    def test_by_name(self):
        self.assertIs(is_sum(thing=(1, ())), True)


class Degree(unittest.TestCase):
    def test_sum_nought(self):
        for many in (1, 2, 3, 4):
            told = degree((many, ()))
            self.assertEqual((told, type(told)), (0, int))

    def test_sums(self):
        for terms, wanted in (
            ({(0,): 5}, 0), ({(0,): 1, (3,): 2}, 3), ({(16,): 1}, 16),
            ({(0, 5): 1, (2, 2): 1, (3, 0): 1}, 5), ({(1, 1): 1, (2, 0): 1}, 2), ({(7, 9): 1}, 16),
            ({(0, 0, 1): 1, (1, 2, 3): 1, (4, 1, 0): 1}, 6), ({(0, 0, 0): 1}, 0),
            ({(0, 0, 0, 1): 1}, 1), ({(1, 1, 1, 1): 1, (3, 0, 0, 0): 1}, 4), ({(4, 4, 4, 4): 1}, 16),
        ):
            one = model.made(len(list(terms)[0]), terms)
            with self.subTest(one):
                self.assertEqual(degree(one), wanted)
                self.assertEqual(degree(one=one), wanted)


if __name__ == "__main__":
    unittest.main()
