"""Point 25: the desk."""

import unittest
from fractions import Fraction

import model
from lowwater.desk import Desk
from lowwater.errors import (
    LowwaterError, NoLine, NoQuotient, NotSecond, NotStraight, NoText, TooMany,
)
from lowwater.layers import never_in
from lowwater.lowest import lowest
from lowwater.parts import parts
from lowwater.reach import reach
from lowwater.rims import kept, over
from lowwater.squares import squares
from lowwater.stretches import never
from lowwater.sums import worth
from lowwater.sumtexts import read, shown

WORDS = "let show worth squares lowest rim bare kept over reach parts never box".split()


def written(number):
    """A fraction as point 7 writes it."""
    top, bottom = number
    return str(top) if bottom == 1 else f"{top}/{bottom}"


def with_numbers(word, spot):
    return " ".join([word] + [written(number) for number in spot])


class Case(unittest.TestCase):
    def setUp(self):
        self.desk = Desk()

    def assert_said(self, wanted, row):
        told = self.desk.say(row)
        self.assertIs(type(told), str)
        self.assertEqual(told, wanted, row)

    def assert_refused(self, refusal, row):
        for turn in range(2):
            with self.assertRaises(refusal) as caught:
                self.desk.say(row)
            self.assertIs(type(caught.exception), refusal, row)
            self.assertIsInstance(caught.exception, LowwaterError)

    def let(self, **texts):
        """Lets sums stand under names: the count of letters and the text."""
        for name, (many, text) in texts.items():
            self.assert_said("ok", f"let {name} {many} {text}")


class Sums(Case):
    def test_let_and_show(self):
        for many, text in ((1, "0"), (1, "1 a"), (1, "-3/7"), (2, "1 a b + -2 b^2"), (4, "1/2 a^2 c + -3 b + 4"), (3, "1 a + 1 b + 1 c + 1"), (4, "7 d^16")):
            self.let(x=(many, text))
            self.assert_said(text, "show x")

    def test_names(self):
        names = ["a", "b", "d", "z", "ab", "abcdefgh", "zzzzzzzz", "ok", "so", "below", "x", "text", "name"] + WORDS
        for at, name in enumerate(names):
            self.assert_said("ok", f"let {name} 1 {at + 1} a")
        for at, name in enumerate(names):
            self.assert_said(f"{at + 1} a", f"show {name}")
        for name in ("", "A", "aB", "abcdefghi", "a1", "1", "a_b", "a-b", "-", "a.", "\ta", "a\n", "a^2", "x" * 100):
            self.assert_refused(NoLine, f"let {name} 1 1 a")
            self.assert_refused(NoLine, f"show {name}")

    def test_let_again(self):
        self.let(x=(1, "1 a"), y=(2, "1 b"))
        self.let(x=(3, "1 c"))
        self.assert_said("1 c", "show x")
        self.assert_said("1 b", "show y")
        self.assert_refused(NoText, "let x 1 1 b")
        self.assert_refused(NoLine, "let x 5 1 a")
        self.assert_refused(NoLine, "let x 1")
        self.assert_said("1 c", "show x")

    def test_counts(self):
        for count in ("0", "5", "-1", "01", "1.", "+1", "1/1", "2/2", "a", "", "one", "10", "1\t"):
            self.assert_refused(NoLine, f"let x {count} 1 a")
            self.assert_refused(NoLine, f"let x {count} nothing")
        for count in ("1", "2", "3", "4"):
            self.assert_said("ok", f"let x {count} 1 a")
            self.assert_said("1", "worth x" + " 1" * int(count))
            self.assert_refused(NoLine, "worth x" + " 1" * (int(count) + 1))

    def test_texts(self):
        for text in ("", " ", "  ", "1 a ", " 1 a", "1  a", "a", "1 b", "2/4 a", "1 a + 1 a^2", "1 a +", "+ 1 a", "1 a + 0", "00", "1 a\n", "1\ta", "nothing", "1 a^1", "1 a^17",
                     "- 1 a", "1/0", "0 a", "-0", "1 A", "1 a;", "let", "1 a + " * 700 + "1"):
            self.assert_refused(NoText, f"let x 1 {text}")
        self.assert_refused(NoLine, "let x 1")
        self.assert_refused(NoLine, "let x")
        self.assert_refused(NoLine, "let")
        self.assert_refused(NoLine, "show x")

    def test_a_text_of_one_word_without_signs(self):
        self.assert_refused(NoLine, "let x 1")
        self.assert_refused(NoText, "let x 1 ")
        self.assert_refused(NoText, "let x 1  ")
        self.assert_refused(NoLine, "let  1 ")
        self.assert_refused(NoLine, "let x  1")

    def test_long_texts(self):
        figures = "9" * 300
        text = f"{figures}/1{'0' * 299} a^2 + -{figures} a + {figures}"
        self.let(x=(1, text))
        self.assert_said(text, "show x")
        longest = " + ".join([f"1 a^{power}" if power > 1 else "1 a" for power in range(16, 0, -1)] + ["1" * 3000])
        self.let(y=(1, longest[:4000]))
        self.assert_refused(NoText, "let y 1 " + "1" * 4001)
        self.assert_said(longest, "show y")

    def test_worth(self):
        for many, text in ((1, "1 a^2 + -3/2 a + 1"), (2, "1 a b + -2 b^2"), (3, "1/3 a b c + -1"), (4, "1 a + 2 b + 3 c + 4 d"), (2, "0")):
            self.let(x=(many, text))
            for spot in (((1, 1),) * many, ((0, 1),) * many, tuple((1 + 2 * at, 2) for at in range(many)), tuple((-5, 1 + at) if at != 4 else (1, 1) for at in range(many))):
                spot = tuple(model.pair(Fraction(*place)) for place in spot)
                self.assert_said(written(worth(read(text, many), spot)), with_numbers("worth x", spot))
        self.assert_said("0", "worth x 7 -1/3")

    def test_worth_is_no_row(self):
        self.let(x=(2, "1 a b"))
        for rest in ("", " 1", " 1 2 3", " 1  2", " 1 2 ", "  1 2", " 1 a", " 1 -", " - -", " 1 2/4", " 1 0/1", " 1 2/1", " 1 -0", " 1 +2", " 1 02", " 1 1/-2", " 1 1/0", " 1 1/02",
                     " 1 1.5", " 1 1/2/3", " 1 /2", " 1 1/", " 1 --2", " 1 1\t", " 1 1\n", " 1 \t", " 1 x"):
            self.assert_refused(NoLine, f"worth x{rest}")
        self.assert_refused(NoLine, "worth y 1 2")
        self.assert_refused(NoLine, "worth")

    def test_figures(self):
        self.let(x=(1, "1 a"))
        for word in ("9" * 30, "-" + "9" * 30, "1/" + "9" * 30, "-7/1" + "0" * 29, "9" * 30 + "/1" + "0" * 29):
            self.assert_said(word, f"worth x {word}")
            self.assertIn(self.desk.say(f"never x {word} -")[:2], ("so", "be"))
        for word in ("1" + "0" * 30, "-1" + "0" * 30, "1/1" + "0" * 30, "-3/1" + "0" * 30, "9" * 31, "9" * 31 + "/1" + "0" * 30, "1" * 3000, "1" * 4500, "1/" + "7" * 4500):
            self.assert_refused(NoLine, f"worth x {word}")
            self.assert_refused(NoLine, f"never x {word} -")
            self.assert_refused(NoLine, f"never x - {word}")
            self.assert_refused(NoLine, f"box x -{word.strip('-')} {word}")

    def test_squares_and_lowest(self):
        for many, text in ((1, "1 a^2"), (1, "0"), (1, "-1 a^2 + 7"), (1, "1 a"), (1, "-1"), (2, "1 a^2 + -3 a b + 4 b^2 + 1 b"), (2, "1 a^2 + 2 a b + 1 b^2"), (2, "1 a b"),
                           (3, "1 a^2 + -1 a + 1 b^2 + -1 b + 1 c^2 + -1 c + 1"), (4, "1 a^2 + 1 b^2 + 1 c^2 + 1 d^2 + -1/10")):
            self.let(x=(many, text))
            one = read(text, many)
            told = self.desk.say("squares x")
            if squares(one)[0] == "so":
                self.assertEqual(told, "so")
            else:
                self.assert_below(one, told)
            least = lowest(one)
            self.assert_said("falls" if least[0] == "falls" else "least " + written(least[1]), "lowest x")
        self.let(x=(1, "1 a^3"), y=(3, "1 a b c"))
        for name in ("x", "y"):
            self.assert_refused(NotSecond, f"squares {name}")
            self.assert_refused(NotSecond, f"lowest {name}")

    def assert_below(self, one, told):
        word, *rest = told.split(" ")
        self.assertEqual((word, len(rest)), ("below", one[0]))
        spot = [model.pair(Fraction(place)) for place in rest]
        self.assertEqual([written(place) for place in spot], rest)
        self.assertLess(model.worth(model.table_of(one), spot), 0)
        return spot


class Rims(Case):
    def test_rims(self):
        self.let(x=(2, "1 a"), y=(2, "1 b"), z=(2, "-1 a + -1 b + 1"), o=(2, "2 a + -1 b + 3"), low=(2, "1 a + -1/2"), down=(2, "-1 a"))
        texts = {name: read(self.desk.say(f"show {name}"), 2) for name in ("x", "y", "z", "o", "low", "down")}
        rims = []
        for name in ("x", "y", "z"):
            self.assert_said("ok", f"rim {name}")
            rims.append(texts[name])
            self.assert_rims(rims, texts)
        self.assert_said("ok", "bare")
        for row in ("kept", "over x", "reach x"):
            self.assert_refused(NoLine, row)
        self.assert_said("ok", "rim low")
        self.assert_said("ok", "rim down")
        self.assert_rims([texts["low"], texts["down"]], texts)
        self.assert_said("none", "kept")
        self.assert_said("none", "over o")
        self.assert_said("none", "reach o")

    def assert_rims(self, rims, texts):
        told = self.desk.say("kept")
        if kept(rims)[0] == "none":
            self.assertEqual(told, "none")
        else:
            self.assert_spot("kept", rims, told)
        for name, one in texts.items():
            told, wanted = self.desk.say(f"over {name}"), over(one, rims)[0]
            if wanted == "below":
                spot = self.assert_spot("below", rims, told)
                self.assertLess(model.worth(model.table_of(one), spot), 0)
            else:
                self.assertEqual(told, wanted)
            least = reach(one, rims)
            self.assert_said("least " + written(least[1]) if least[0] == "least" else least[0], f"reach {name}")

    def assert_spot(self, wanted, rims, told):
        word, *rest = told.split(" ")
        self.assertEqual((word, len(rest)), (wanted, rims[0][0]))
        spot = [model.pair(Fraction(place)) for place in rest]
        self.assertEqual([written(place) for place in spot], rest)
        self.assertTrue(all(model.worth(model.table_of(rim), spot) >= 0 for rim in rims))
        return spot

    def test_rims_as_they_were_when_put(self):
        self.let(x=(1, "1 a + -5"), y=(1, "1 a"))
        self.assert_said("ok", "rim x")
        self.let(x=(1, "-1 a"))
        self.assert_said("least 5", "reach y")
        self.let(x=(3, "1 c"))
        self.assert_said("least 5", "reach y")
        self.assert_refused(NoLine, "over x")
        self.assert_said("ok", "rim y")
        self.assert_said("least 5", "reach y")

    def test_the_same_rim_again_and_a_seventh(self):
        self.let(x=(2, "1 a"), bent=(2, "1 a b"), other=(1, "1 a"))
        for turn in range(6):
            self.assert_said("ok", "rim x")
        for name in ("x", "bent", "other"):
            self.assert_refused(NoLine, f"rim {name}")
        self.assert_said("so", "over x")
        self.assert_said("ok", "bare")
        self.assert_said("ok", "bare")
        self.assert_said("ok", "rim other")
        self.assert_said("least 0", "reach other")

    def test_letters(self):
        self.let(one=(1, "1 a"), two=(2, "1 b"), three=(3, "1 c"), four=(4, "1 d"), zero=(4, "0"), bent=(4, "1 d^2"), wave=(3, "1 c^2"))
        for name in ("four", "zero", "bent"):
            self.assert_refused(NoLine, f"rim {name}")
        for name in ("one", "two", "three"):
            self.assert_said("ok", "bare")
            self.assert_said("ok", f"rim {name}")
            for other in ("one", "two", "three", "four", "wave"):
                if other == name or (other == "wave" and name == "three"):
                    continue
                self.assert_refused(NoLine, f"rim {other}")
                self.assert_refused(NoLine, f"over {other}")
                self.assert_refused(NoLine, f"reach {other}")
            self.assert_said("so", f"over {name}")
            self.assert_said("least 0", f"reach {name}")
        self.assert_refused(NotStraight, "rim wave")
        self.assert_refused(NotStraight, "over wave")
        self.assert_refused(NotStraight, "reach wave")
        self.assert_said("ok", "bare")
        self.assert_refused(NotStraight, "rim wave")
        self.assert_refused(NoLine, "over wave")
        self.assert_refused(NoLine, "kept")

    def test_what_is_refused_changes_nothing(self):
        self.let(x=(1, "1 a + -2"), bent=(1, "1 a^2"), y=(1, "1 a"))
        self.assert_said("ok", "rim x")
        for row, refusal in (("rim bent", NotStraight), ("rim none", NoLine), ("rim", NoLine), ("bare x", NoLine), ("rim y y", NoLine), ("bare ", NoLine), ("let x 1 nothing", NoText),
                             ("let x 2", NoLine), ("let y 1 1 b", NoText)):
            self.assert_refused(refusal, row)
            self.assert_said("least 2", "reach y")
            self.assert_said("1 a + -2", "show x")
            self.assert_said("so", "over x")

    def test_falls(self):
        self.let(x=(2, "1 a"), y=(2, "1 b"))
        self.assert_said("ok", "rim x")
        self.assert_said("falls", "reach y")
        self.assertEqual(self.desk.say("over y")[:6], "below ")


class OneLetter(Case):
    def test_parts(self):
        for text, wanted in (("1 a^3 + -1 a^2 + -1 a + 1", "1 ; 1 1 a + 1 ; 2 1 a + -1"), ("3/2", "3/2"), ("-7", "-7"), ("2 a + 1", "2 ; 1 1 a + 1/2"), ("-1/2 a^8", "-1/2 ; 8 1 a")):
            self.let(x=(1, text))
            self.assert_said(wanted, "parts x")
            number, found = parts(read(text, 1))
            self.assert_said("".join([written(number)] + [f" ; {often} {shown(part)}" for part, often in found]), "parts x")
        self.let(x=(1, "0"), high=(1, "1 a^9"), two=(2, "1 a"), flat=(2, "0"), four=(4, "1 a^9"))
        self.assert_refused(NoQuotient, "parts x")
        for name in ("high", "two", "flat", "four"):
            self.assert_refused(NoLine, f"parts {name}")

    def test_never(self):
        for text in ("1 a^2 + -3 a + 2", "0", "-1", "1 a", "-1 a^2 + 1 a", "1 a^8 + 1", "1 a^4 + -2 a^2 + 1", "9 a^2 + -6 a + 1"):
            self.let(x=(1, text))
            one = read(text, 1)
            for low, high in (("0", "1"), ("-1/2", "3/7"), ("-", "0"), ("-", "-"), ("2", "-"), ("-5", "-1/3"), ("1", "2"), ("-", "1"), ("-", "-1")):
                ends = [None if end == "-" else model.pair(Fraction(end)) for end in (low, high)]
                told = self.desk.say(f"never x {low} {high}")
                if never(one, *ends)[0] == "so":
                    self.assertEqual(told, "so")
                else:
                    word, place = told.split(" ")
                    self.assertEqual(word, "below")
                    self.assertEqual(written(model.pair(Fraction(place))), place)
                    self.assertTrue((low == "-" or Fraction(low) <= Fraction(place)) and (high == "-" or Fraction(place) <= Fraction(high)))
                    self.assertLess(model.worth(model.table_of(one), [model.pair(Fraction(place))]), 0)

    def test_never_is_no_row(self):
        self.let(x=(1, "1 a^2"), high=(1, "1 a^9"), top=(1, "1 a^16"), two=(2, "1 a"), flat=(3, "0"))
        for rest in ("0 0", "1 0", "1/2 1/3", "-1/3 -1/2", "0", "", "0 1 2", "-", "- - -", "0  1", "0 1 ", "0 --", "a 1", "0 2/4", "0 1/0", "-- 1", "0 -0", "- ", " -", "0 +"):
            self.assert_refused(NoLine, f"never x {rest}")
        for name in ("high", "top", "two", "flat", "none", ""):
            self.assert_refused(NoLine, f"never {name} 0 1")
            self.assert_refused(NoLine, f"never {name} - -")
        self.assert_refused(NoLine, "never x")
        self.assert_refused(NoLine, "never")
        self.assert_said("so", "never x - -")


class Boxes(Case):
    def test_box(self):
        for many, text, ends in (
            (1, "1 a^2 + -1 a + 1/4", "0 1"), (1, "1 a^4 + -1/16", "-1 1"), (1, "1 a", "1/3 2"), (2, "1 a b", "0 1 0 1"), (2, "1 a b", "-1 1 0 1"), (2, "1 a^2 + -1 a b + 1 b^2", "-1 1 -1 1"),
            (2, "1 a^2 b^2 + 1", "-1/2 1/3 -2 2"), (3, "1 a b c + 1", "-1 1 -1 1 -1 1"), (3, "1 a b c + 1/2", "-1 1 -1 1 -1 1"), (3, "0", "0 1 0 1 0 1"), (2, "-1/7", "0 1 0 1"),
            (2, "1 a + -1", "1 2 -5 -4"), (2, "1 b + -1", "1 2 -5 -4"),
        ):
            self.let(x=(many, text))
            one = read(text, many)
            places = [model.pair(Fraction(end)) for end in ends.split(" ")]
            box = list(zip(places[::2], places[1::2]))
            try:
                wanted = never_in(one, box, 20)
            except TooMany:
                self.assert_refused(TooMany, f"box x {ends}")
                continue
            told = self.desk.say(f"box x {ends}")
            if wanted[0] == "so":
                self.assertEqual(told, "so")
            else:
                word, *rest = told.split(" ")
                spot = [model.pair(Fraction(place)) for place in rest]
                self.assertEqual((word, [written(place) for place in spot]), ("below", rest))
                self.assertTrue(all(Fraction(*low) <= Fraction(*place) <= Fraction(*high) for (low, high), place in zip(box, spot)))
                self.assertLess(model.worth(model.table_of(one), spot), 0)

    def test_the_limit_is_twenty(self):
        # Of these sums the middle ones leave just twenty boxes in some layer, the later ones twenty-one and more.
        for share, wanted in ((4, True), (364, True), (416, True), (428, True), (432, False), (512, False), (4000, False)):
            number = 1 + Fraction(1, share)
            self.let(x=(2, f"9 a^2 b^2 + -6 a b + {number}"))
            if wanted:
                self.assert_said("so", "box x 0 1 0 1")
            else:
                self.assert_refused(TooMany, "box x 0 1 0 1")
        self.let(x=(1, "9 a^2 + -6 a + 1"))
        self.assert_refused(TooMany, "box x 0 1")

    def test_box_is_no_row(self):
        self.let(one=(1, "1 a^4"), two=(2, "1 a^2 b^2"), three=(3, "1 a b c"), four=(4, "1 a"), zero=(4, "0"), fifth=(1, "1 a^5"), third=(2, "1 a b^3"), second=(3, "1 a b c^2"))
        self.assert_said("so", "box one 0 1")
        self.assert_said("so", "box two 0 1 0 1")
        self.assert_said("so", "box three 0 1 0 1 0 1")
        pairs = {"one": 1, "two": 2, "three": 3, "four": 4, "zero": 4, "fifth": 1, "third": 2, "second": 3}
        for name in ("four", "zero", "fifth", "third", "second"):
            self.assert_refused(NoLine, f"box {name}" + " 0 1" * pairs[name])
        for name in ("one", "two", "three"):
            for count in (0, 1, 2, 3, 4):
                if count != pairs[name]:
                    self.assert_refused(NoLine, f"box {name}" + " 0 1" * count)
            self.assert_refused(NoLine, f"box {name}" + " 0 1" * (pairs[name] - 1) + " 0")
            self.assert_refused(NoLine, f"box {name}" + " 0 1" * pairs[name] + " 1")
            for ends in ("0 0", "1 0", "1/2 1/3", "- 1", "0 -", "- -", "0 a", "2/4 1", "0  1", "0 1 "):
                self.assert_refused(NoLine, f"box {name}" + " 0 1" * (pairs[name] - 1) + f" {ends}")
                self.assert_refused(NoLine, f"box {name} {ends}" + " 0 1" * (pairs[name] - 1))
        self.assert_refused(NoLine, "box none 0 1")
        self.assert_refused(NoLine, "box")


class Rows(Case):
    def test_no_rows(self):
        self.let(x=(1, "1 a"))
        for row in ("", " ", "x", "LET x 1 1 a", "Let x 1 1 a", "hello", "ok", " show x", "show x ", "show  x", "show\tx", "show\nx", "\n", "show x\n", "show", "show x x", "show y",
                    "squares", "squares y", "squares x x", "lowest", "lowest y", "lowest x x", "rim", "rim y", "rim x x", "bare x", "bare ", "kept x", "kept ", "kept", "over", "over y",
                    "over x", "over x x", "reach", "reach y", "reach x", "reach x x", "parts", "parts y", "parts x x", "shown x", "sho x", "show,x", "let", "letx 1 1 a", "nearly x 0 1 1"):
            self.assert_refused(NoLine, row)
        self.assert_said("1 a", "show x")

    def test_no_line_goes_first(self):
        self.let(high=(1, "1 a^9"), bent=(2, "1 a^3"), four=(4, "1 d^2"), zero=(1, "0"), flat=(2, "0"))
        for row in ("let A 1 nothing", "let x 7 nothing", "let x 1", "squares bent x", "lowest bent x", "rim four", "over bent", "reach bent", "parts high", "parts flat", "parts zero x",
                    "never high 0 1", "box bent 0 1 0 1"):
            self.assert_refused(NoLine, row)
        self.assert_refused(NoQuotient, "parts zero")
        self.assert_refused(NotSecond, "squares bent")

    def test_two_desks_know_nothing_of_each_other(self):
        other = Desk()
        self.let(x=(1, "1 a"))
        self.assert_said("ok", "rim x")
        for row in ("show x", "kept", "over x"):
            with self.assertRaises(NoLine):
                other.say(row)
        self.assertEqual(other.say("let x 2 1 b"), "ok")
        self.assertEqual(other.say("rim x"), "ok")
        self.assertEqual(other.say("bare"), "ok")
        self.assert_said("1 a", "show x")
        self.assert_said("least 0", "reach x")
        self.assertEqual(other.say("show x"), "1 b")

    def test_by_name(self):
        self.assertEqual(self.desk.say(row="let x 1 1 a"), "ok")
        with self.assertRaises(NoLine):
            self.desk.say(row="show y")


if __name__ == "__main__":
    unittest.main()
