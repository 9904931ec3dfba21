import math
import re
import unittest
from fractions import Fraction

import model
from lowwater.errors import LowwaterError, NoText
from lowwater.sumtexts import read, shown

LETTERS = "abcd"
NUMBER = r"(-?[1-9][0-9]*)(?:/([1-9][0-9]*))?"
TERM = re.compile(NUMBER + "".join(rf"(?: ({letter})(?:\^([1-9][0-9]*))?)?" for letter in LETTERS))


def read_by_model(text, many):
    """The sum that a text is, by a way of its own, or None."""
    if len(text) > 4000:
        return None
    if text == "0":
        return (many, ())
    terms = []
    for part in text.split(" + "):
        found = TERM.fullmatch(part)
        if found is None:
            return None
        top, bottom = int(found[1]), int(found[2] or 1)
        hats = [found[3 + 2 * at + 1] for at in range(4)]
        powers = [0 if found[3 + 2 * at] is None else int(hats[at] or 1) for at in range(4)]
        if found[2] == "1" or math.gcd(top, bottom) != 1 or "1" in hats or any(powers[many:]) or sum(powers) > 16:
            return None
        terms.append((tuple(powers[:many]), (top, bottom)))
    if not all(first[0] > second[0] for first, second in zip(terms, terms[1:])):
        return None
    return (many, tuple(terms[::-1]))


def sums():
    """Sums of one to four letters, some with long numbers, all with a text of at most 4,000 signs."""
    rolls = model.dice(70)
    for many in (1, 2, 3, 4):
        yield (many, ())
        for number in (1, -1, 4, Fraction(1, 2), Fraction(-7, 3), 10**299, Fraction(-10**299, 10**299 + 1)):
            yield model.constant(many, number)
            yield model.made(many, {(1,) * many: Fraction(number)})
        for letter in range(many):
            for power in (1, 2, 9, 10, 16):
                yield model.letter_sum(many, letter, power)
        for turn in range(30):
            yield model.any_sum(rolls, many, 16, min(12, 8 * many))
        for turn in range(4):
            yield model.any_sum(rolls, many, 16, 5, long=True)


class Shown(unittest.TestCase):
    def assert_shown(self, many, table, wanted):
        self.assertEqual(shown(model.made(many, table)), wanted)

    def test_the_document(self):
        self.assert_shown(3, {(2, 0, 1): Fraction(1, 2), (0, 1, 0): -3, (0, 0, 0): 4}, "1/2 a^2 c + -3 b + 4")

    def test_numbers_alone(self):
        for many in (1, 2, 3, 4):
            self.assertEqual(shown((many, ())), "0")
            for number, wanted in ((1, "1"), (-1, "-1"), (10, "10"), (Fraction(1, 2), "1/2"), (Fraction(-3, 20), "-3/20")):
                self.assertEqual(shown(model.constant(many, number)), wanted)

    def test_the_fraction_is_always_written(self):
        for many in (1, 2, 3, 4):
            for letter in range(many):
                self.assertEqual(shown(model.letter_sum(many, letter)), f"1 {LETTERS[letter]}")
                less = {powers: -1 for powers, number in model.letter_sum(many, letter, 3)[1]}
                self.assert_shown(many, less, f"-1 {LETTERS[letter]}^3")

    def test_powers(self):
        self.assert_shown(4, {(1, 2, 1, 12): 5, (0, 0, 0, 1): Fraction(-1, 3)}, "5 a b^2 c d^12 + -1/3 d")
        self.assert_shown(1, {(16,): 1, (2,): 1, (1,): 1, (0,): 1}, "1 a^16 + 1 a^2 + 1 a + 1")

    def test_the_greatest_powers_first(self):
        table = {(0, 9): 1, (1, 0): 2, (1, 1): 3, (0, 10): 4, (2, 0): 5, (0, 0): 6}
        self.assert_shown(2, table, "5 a^2 + 3 a b + 2 a + 4 b^10 + 1 b^9 + 6")

    def test_long_ones(self):
        top, bottom = 3 * 10**298 + 1, 10**299
        self.assert_shown(1, {(1,): Fraction(top, bottom), (0,): Fraction(-bottom)}, f"{top}/{bottom} a + -{bottom}")
        self.assert_shown(2, {(0, 1): Fraction(-top, bottom)}, f"-{top}/{bottom} b")

    def test_the_most_terms(self):
        one = model.first_terms(4, 500)
        parts = shown(one).split(" + ")
        self.assertEqual(len(parts), 500)
        self.assertEqual(parts[-1], "1")
        for part, (powers, number) in zip(parts[::-1], one[1]):
            self.assertEqual(read_by_model(part, 4), (4, ((powers, number),)))

    def test_by_name(self):
        self.assertEqual(shown(one=(1, ())), "0")


class Read(unittest.TestCase):
    def assert_refused(self, text, many):
        with self.assertRaises(NoText, msg=text[:100]) as caught:
            read(text, many)
        self.assertIsInstance(caught.exception, LowwaterError)

    def test_what_was_shown(self):
        for one in sums():
            self.assertEqual(read(shown(one), one[0]), one)
            self.assertEqual(read_by_model(shown(one), one[0]), one)

    def test_more_and_fewer_letters(self):
        for one in sums():
            standing = max((at + 1 for powers, number in one[1] for at, power in enumerate(powers) if power), default=0)
            for many in (1, 2, 3, 4):
                if many < standing:
                    self.assert_refused(shown(one), many)
                else:
                    terms = [((powers + (0,) * 4)[:many], number) for powers, number in one[1]]
                    self.assertEqual(read(shown(one), many), (many, tuple(terms)))

    def test_every_small_change(self):
        signs = "0123456789abcdeA +-/^*.=,_~x\t\n"
        texts = ("0", "1", "-1", "1 a", "1/2 a^2 c + -3 b + 4", "-10/3 a b^12 + 11 b^2 + 1/10 b", "2 d^16 + 1", "1 a + 1 b")
        for text in texts:
            changed = {text[:at] + text[at + 1:] for at in range(len(text))}
            changed |= {text[:at] + sign + text[at:] for at in range(len(text) + 1) for sign in signs}
            changed |= {text[:at] + sign + text[at + 1:] for at in range(len(text)) for sign in signs}
            for other in changed:
                for many in (3, 4):
                    wanted = read_by_model(other, many)
                    if wanted is None:
                        self.assert_refused(other, many)
                    else:
                        self.assertEqual(read(other, many), wanted)

    def test_refused(self):
        wrongs = (
            "", " ", "+", "-", " + ", "a", "-a", "1a", "+1", "01", "-01", "00", "-0", "0/1", "0/2", "1/1", "-1/1", "2/1", "2/4",
            "1/0", "0/0", "1/-2", "-1/-2", "1/02", "1/2/3", "1/", "/2", "- 1", "1 / 2", "1.5", "1e2", "1_0", "0x1",
            "0 a", "0 + 0", "0 + 1", "1 + 0", "1 a + 0", "1 a + 0 b + 1", "1 a + -0", "a 1", "1 a^", "1 a^1", "1 a^0",
            "1 a^01", "1 a^02", "1 a^-1", "1 a^+2", "1 a^2^2", "1 a ^2", "1 a^ 2", "1 a2", "1 aa", "1 ab", "1 a*b", "1 a a",
            "1 a^2 a", "1 a b a", "1 b a", "1 b^2 a", "1 A", "1 e", "1 ^2", "1 a^1/2", "1 a^b", "1 2", "1 2 a", "1 a 2",
            "1  a", " 1 a", "1 a ", "1 a  + 1", "1 a +  1", "1 a + ", " + 1", "1 a + + 1", "1 a+1", "1 a +1", "1 a+ 1",
            "1 a - 1", "1 a + +1", "1 a\t", "\t1 a", "1\ta", "1 a\n", "\n1 a", "1 a\n+ 1", "1 a +\n1", "1 a +\t1", "\n", "\t",
            "1 + 1 a", "1 a + 1 a^2", "1 b + 1 a", "1 b^9 + 1 a", "1 a + 1 a", "1 a + -1 a", "1 + 1", "1 a + 2 a + 1", "1 a b + 1 a^2",
            "(1)", "1 (a)", "1 a + (1)", "None", "True", "~", "1 a^2 c + -3 b + 4 + 4",
        )
        for text in wrongs:
            for many in (1, 2, 3, 4):
                self.assertIsNone(read_by_model(text, many), text)
                self.assert_refused(text, many)

    def test_letters_beyond(self):
        for many in (1, 2, 3, 4):
            for at, letter in enumerate("abcde"):
                for text in (f"1 {letter}", f"1 {letter}^2 + 1", f"-1/2 {letter}^16"):
                    if at < many:
                        self.assertEqual(read(text, many), read_by_model(text, many))
                    else:
                        self.assert_refused(text, many)

    def test_degree(self):
        for text, many in (("1 a^16", 1), ("1 a^7 b^9", 2), ("1 a^4 b^4 c^4 d^4 + 1", 4), ("1 a^15 d", 4)):
            self.assertEqual(read(text, many), read_by_model(text, many))
        for text, many in (("1 a^17", 1), ("1 a^8 b^9", 2), ("1 a^4 b^4 c^4 d^5 + 1", 4), ("1 a^16 d", 4), ("1 a + 1 b^17", 2)):
            self.assert_refused(text, many)
        for power in (str(10**299), "9" * 3000, "0" * 3000, "1" + "0" * 3000):
            self.assert_refused(f"1 a^{power}", 1)

    def text_of_length(self, length):
        """A right text of so many signs, no number of more than three hundred figures."""
        parts = []
        for powers in model.all_powers(2, 9)[::-1]:
            part = shown(model.made(2, {powers: Fraction(3 * 10**50 + 1, 10**50)}))
            if len(" + ".join(parts + [part])) > length - 130:
                break
            parts.append(part)
        rest = length - len(" + ".join(parts)) - 3
        return " + ".join(parts + ["1" * rest])

    def test_length(self):
        for length in (3998, 3999, 4000):
            text = self.text_of_length(length)
            self.assertEqual(len(text), length)
            self.assertEqual(shown(read(text, 2)), text)
            self.assertEqual(read(text, 2), read_by_model(text, 2))
        for length in (4001, 4002, 5000):
            text = self.text_of_length(length)
            self.assertEqual(len(text), length)
            self.assert_refused(text, 2)
        for text in (" " * 4001, "1" * 4001, "1" * 5000, "1/" + "1" * 5000, "1 a^" + "1" * 5000, "\n" * 100000):
            self.assert_refused(text, 2)

    def test_most_terms(self):
        for count in (500, 501):
            parts = [shown((4, ((powers, (1, 1)),))) for powers in model.all_powers(4, 16)[:count]]
            self.assert_refused(" + ".join(parts[::-1]), 4)
        few = [shown((4, ((powers, (1, 1)),))) for powers in model.all_powers(4, 5)]
        text = " + ".join(few[::-1])
        self.assertEqual(len(read(text, 4)[1]), 126)
        self.assertEqual(shown(read(text, 4)), text)

    def test_told_again_behind_a_refusal(self):
        for turn in range(2):
            self.assert_refused("1 a + 1 a", 1)
            self.assertEqual(read("1 a + 1", 1), (1, (((0,), (1, 1)), ((1,), (1, 1)))))

    def test_by_name(self):
        self.assertEqual(read(many=2, text="0"), (2, ()))
        with self.assertRaises(NoText):
            read(many=2, text="00")


if __name__ == "__main__":
    unittest.main()
