"""Sums as texts: 1/2 a^2 c + -3 b + 4."""

from lowwater.errors import NoText
from lowwater.sums import is_sum

LETTERS = ("a", "b", "c", "d")
FIGURES = ("0", "1", "2", "3", "4", "5", "6", "7", "8", "9")
MOST_SIGNS = 4000


def shown_number(number):
    """A fraction as a text."""
    top, bottom = number
    if bottom == 1:
        return str(top)
    return f"{top}/{bottom}"


def shown_term(powers, number):
    """A term as a text: the fraction and each letter that has a power."""
    words = [shown_number(number)]
    for letter, power in zip(LETTERS, powers):
        if power == 1:
            words.append(letter)
        if power > 1:
            words.append(f"{letter}^{power}")
    return " ".join(words)


def shown(one):
    """A sum as a text, the greatest powers first."""
    if one[1] == ():
        return "0"
    return " + ".join([shown_term(powers, number) for powers, number in one[1][::-1]])


def read_whole(word):
    """The whole number that a word of figures, with a minus ahead or without, stands for."""
    figures = word[1:] if word.startswith("-") else word
    if figures == "" or not all([sign in FIGURES for sign in figures]):
        raise NoText("a number is not written in figures")
    return int(word)


def read_number(word):
    """A fraction's top and bottom, in lowest terms or not."""
    top, stroke, bottom = word.partition("/")
    if stroke == "":
        return (read_whole(top), 1)
    return (read_whole(top), read_whole(bottom))


def read_powers(words, many):
    """The powers that words of letters stand for, in whatever order they come."""
    powers = [0] * many
    for word in words:
        letter, hat, power = word.partition("^")
        if letter not in LETTERS[:many]:
            raise NoText("a word stands where a letter should")
        powers[LETTERS.index(letter)] += 1 if hat == "" else read_whole(power)
    return tuple(powers)


def read_term(text, many):
    """A term as it stands in a sum, if its text is a right one."""
    words = text.split(" ")
    return (read_powers(words[1:], many), read_number(words[0]))


def read(text, many):
    """The sum of so many letters that the text is; refused with NoText where it is none so written."""
    if len(text) > MOST_SIGNS:
        raise NoText(f"a text of {len(text)} signs")
    if text == "0":
        return (many, ())
    one = (many, tuple([read_term(part, many) for part in text.split(" + ")[::-1]]))
    # What is read so far may be written loosely; a sum has one text alone, and this must be it.
    if not is_sum(one) or shown(one) != text:
        raise NoText("the text is not how a sum is written")
    return one
