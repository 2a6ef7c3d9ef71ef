"""Numerals: the words that tell fractions, n or n/m, lowest terms asked of nobody."""

from latestshake.ratios import reduced

MOST_FIGURES = 400
FIGURES = "0123456789"


def is_figures(word):
    """Whether a word is 0, or some figures of which the first one is not 0."""
    if not 1 <= len(word) <= MOST_FIGURES or not all([sign in FIGURES for sign in word]):
        return False
    return word == "0" or word[0] != "0"


def is_numeral(word):
    """Whether a word is a numeral."""
    top, slash, bottom = word.removeprefix("-").partition("/")
    if not is_figures(top) or (word.startswith("-") and top == "0"):
        return False
    return slash == "" or (is_figures(bottom) and bottom != "0")


def fraction_in(word):
    """The fraction that a numeral tells."""
    top, slash, bottom = word.partition("/")
    return reduced(int(top), 1 if slash == "" else int(bottom))


def numeral_of(fraction):
    """The numeral that tells a fraction in lowest terms."""
    top, bottom = fraction
    return str(top) if bottom == 1 else f"{top}/{bottom}"
