"""COUNTS and NUMBERS read from single words."""

from toldpushes.ratios import Ratio

DIGITS = "0123456789"


def are_digits(word):
    """Whether a string is of one decimal digit or more, and of nothing else."""
    return word != "" and all([sign in DIGITS for sign in word])


def count_of(word):
    """The COUNT whose written form the word is; None if it is none."""
    if not are_digits(word) or (word[0] == "0" and word != "0"):
        return None
    return int(word)


def number_of(word):
    """The NUMBER, as a Ratio, whose written form the word is; None if it is none."""
    top, stroke, bottom = word.partition("/")
    if stroke == "":
        bottom = "1"
    if not are_digits(top[1:] if top.startswith("-") else top) or not are_digits(bottom) or int(bottom) == 0:
        return None
    number = Ratio(int(top), int(bottom))
    # Each NUMBER has just one written form: needless zeros, a needless sign or stroke make another one.
    return number if str(number) == word else None
