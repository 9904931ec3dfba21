"""The desk: it is told rows of words and answers each with a text; it keeps sums under names, and rims."""

from lowwater.errors import NoLine, NotStraight, NoText
from lowwater.fractions import beside
from lowwater.layers import never_in
from lowwater.lowest import lowest
from lowwater.parts import parts
from lowwater.reach import reach
from lowwater.rims import kept, over
from lowwater.squares import squares
from lowwater.stretches import never
from lowwater.sums import degree, scaled, worth
from lowwater.sumtexts import read, shown

SMALL_LETTERS = "abcdefghijklmnopqrstuvwxyz"
MOST_SIGNS = 8
COUNTS = {"1": 1, "2": 2, "3": 3, "4": 4}
MOST_RIMS = 6
MOST_RIM_LETTERS = 3
MOST_DEGREE = 8
# For so many letters the greatest power of one that a sum in a box may have.
BOX_POWERS = {1: 4, 2: 2, 3: 1}
BOX_LIMIT = 20
# The least number of more than thirty figures.
TOO_LONG = 10 ** 30
NOUGHT = (0, 1)
SUM_ONE = (1, (((0,), (1, 1)),))


def refuse_line(is_wrong, text):
    """Refused with NoLine where something is wrong."""
    if is_wrong:
        raise NoLine(text)


def read_number(word):
    """The fraction that a word is; refused with NoLine."""
    try:
        one = read(word, 1)
    except NoText:
        raise NoLine("a word is no fraction")
    # A text of one word has no letter behind its number, so its worth is the same everywhere.
    top, bottom = worth(one, (NOUGHT,))
    refuse_line(abs(top) >= TOO_LONG or bottom >= TOO_LONG, "a fraction of more than thirty figures")
    return (top, bottom)


def read_end(word):
    """The fraction that a word is, or None of the word for no end."""
    if word == "-":
        return None
    return read_number(word)


def refuse_turned(low, high):
    """Refused with NoLine where both ends are there, and low is not less than high."""
    if low is not None and high is not None:
        refuse_line(beside(low, high) >= 0, "a low that is not less than its high")


def shown_number(number):
    """A fraction as a text."""
    return shown(scaled(SUM_ONE, number))


def with_numbers(word, some):
    """A word with fractions behind it."""
    return " ".join([word] + [shown_number(number) for number in some])


def refuse_count(words, count):
    """Refused with NoLine where there are more or fewer words."""
    refuse_line(len(words) != count, "too few or too many words")


def sum_named(desk, words):
    """The sum under the name that is the first of the words."""
    refuse_line(words == [] or words[0] not in desk.sums, "a name under which nothing stands")
    return desk.sums[words[0]]


def only_sum(desk, words):
    """The sum under the name that is the only word."""
    refuse_count(words, 1)
    return sum_named(desk, words)


def is_name(word):
    """Whether the word may be a name: one to eight small letters."""
    return 1 <= len(word) <= MOST_SIGNS and all([sign in SMALL_LETTERS for sign in word])


def say_let(desk, words):
    """let NAME N TEXT"""
    refuse_line(len(words) < 3, "too few words")
    refuse_line(not is_name(words[0]), "no name")
    refuse_line(words[1] not in COUNTS, "no count of letters")
    desk.sums[words[0]] = read(" ".join(words[2:]), COUNTS[words[1]])
    return "ok"


def say_show(desk, words):
    """show NAME"""
    return shown(only_sum(desk, words))


def say_worth(desk, words):
    """worth NAME F .."""
    one = sum_named(desk, words)
    refuse_count(words, one[0] + 1)
    return shown_number(worth(one, tuple([read_number(word) for word in words[1:]])))


def say_squares(desk, words):
    """squares NAME"""
    told = squares(only_sum(desk, words))
    return "so" if told[0] == "so" else with_numbers("below", told[1])


def say_lowest(desk, words):
    """lowest NAME"""
    told = lowest(only_sum(desk, words))
    return "falls" if told[0] == "falls" else with_numbers("least", [told[1]])


def say_rim(desk, words):
    """rim NAME"""
    one = only_sum(desk, words)
    refuse_line(one[0] > MOST_RIM_LETTERS, "a rim of four letters")
    refuse_line(desk.rims != [] and desk.rims[0][0] != one[0], "a rim of other letters than the rims there")
    refuse_line(len(desk.rims) == MOST_RIMS, "a seventh rim")
    if degree(one) > 1:
        raise NotStraight("a rim that is not straight")
    desk.rims.append(one)
    return "ok"


def say_bare(desk, words):
    """bare"""
    refuse_count(words, 0)
    desk.rims.clear()
    return "ok"


def say_kept(desk, words):
    """kept"""
    refuse_count(words, 0)
    refuse_line(desk.rims == [], "no rims")
    told = kept(desk.rims)
    return "none" if told[0] == "none" else with_numbers("kept", told[1])


def sum_over(desk, words):
    """The sum under the name that is the only word, to be laid over the rims."""
    one = only_sum(desk, words)
    refuse_line(desk.rims == [], "no rims")
    refuse_line(desk.rims[0][0] != one[0], "a sum of other letters than the rims")
    return one


def say_over(desk, words):
    """over NAME"""
    told = over(sum_over(desk, words), desk.rims)
    return with_numbers("below", told[1]) if told[0] == "below" else told[0]


def say_reach(desk, words):
    """reach NAME"""
    told = reach(sum_over(desk, words), desk.rims)
    return with_numbers("least", [told[1]]) if told[0] == "least" else told[0]


def refuse_wide(one):
    """Refused with NoLine where a sum is of more letters than one, or of a degree above 8."""
    refuse_line(one[0] != 1 or degree(one) > MOST_DEGREE, "a sum of more letters than one or of a degree above 8")


def say_parts(desk, words):
    """parts NAME"""
    one = only_sum(desk, words)
    refuse_wide(one)
    number, found = parts(one)
    return " ; ".join([shown_number(number)] + [f"{often} {shown(part)}" for part, often in found])


def say_never(desk, words):
    """never NAME L H"""
    refuse_count(words, 3)
    one = sum_named(desk, words)
    refuse_wide(one)
    low, high = read_end(words[1]), read_end(words[2])
    refuse_turned(low, high)
    told = never(one, low, high)
    return "so" if told[0] == "so" else with_numbers("below", told[1])


def refuse_unboxed(one):
    """Refused with NoLine where a sum is of four letters, or has a power that is too great for its letters."""
    refuse_line(one[0] not in BOX_POWERS, "a box of four letters")
    most = max([max(powers) for powers, number in one[1]], default=0)
    refuse_line(most > BOX_POWERS[one[0]], "a power that is too great for a box")


def say_box(desk, words):
    """box NAME F F .."""
    one = sum_named(desk, words)
    refuse_unboxed(one)
    refuse_count(words, 2 * one[0] + 1)
    ends = [read_number(word) for word in words[1:]]
    box = list(zip(ends[::2], ends[1::2]))
    for low, high in box:
        refuse_turned(low, high)
    told = never_in(one, box, BOX_LIMIT)
    return "so" if told[0] == "so" else with_numbers("below", told[1])


DEEDS = {
    "let": say_let, "show": say_show, "worth": say_worth, "squares": say_squares, "lowest": say_lowest,
    "rim": say_rim, "bare": say_bare, "kept": say_kept, "over": say_over, "reach": say_reach,
    "parts": say_parts, "never": say_never, "box": say_box,
}


class Desk:
    """Sums under names and rims, kept between the rows that the desk is told."""

    def __init__(self):
        self.sums = {}
        self.rims = []

    def say(self, row):
        """The answer to a row; refused with NoLine, with NoText, or with what the asked function tells."""
        words = row.split(" ")
        refuse_line(words[0] not in DEEDS, "a row that begins with no word of the desk")
        deed = DEEDS[words[0]]
        return deed(self, words[1:])
