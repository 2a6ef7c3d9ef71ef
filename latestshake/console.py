"""A console: lines of words that do deeds in a book and ask of its scene, each answered by one text."""

from latestshake.books import Book
from latestshake.errors import InUse, InvalidLine, InvalidName, InvalidReading, InvalidSide, InvalidWindow
from latestshake.errors import NothingToRedo, NothingToUndo, SamePlace, Taken, TooMany, Unknown
from latestshake.numbers import figures
from latestshake.numerals import fraction_in, is_figures, is_numeral
from latestshake.pictures import signs
from latestshake.points import WORDS, number_of
from latestshake.scenes import moments_at
from latestshake.text import show

PLACES = 3
NO_END = "-"
# Behind its first word each line has words of these kinds.
FORMS = {
    "station": ("NAME", "NUMERAL", "NUMERAL"),
    "heard": ("NAME", "NAME", "END", "END"),
    "side": ("NAME", "NUMERAL", "NUMERAL", "NUMERAL"),
    "strike": ("NAME",),
    "remove": ("NAME",),
    "undo": (),
    "redo": (),
    "text": (),
    "fits": (),
    "latest": (),
    "at": ("NUMERAL", "NUMERAL"),
    "wrong": (),
    "picture": ("NUMERAL", "NUMERAL", "NUMERAL", "NUMERAL", "FIGURES"),
    "work": (),
}


def is_of_kind(kind, word):
    """Whether a word is what is due."""
    if kind == "NUMERAL":
        return is_numeral(word)
    if kind == "END":
        return word == NO_END or is_numeral(word)
    if kind == "FIGURES":
        return is_figures(word)
    return True


def told_by(kind, word):
    """What a word of a kind tells."""
    if kind == "NAME":
        return word
    if kind == "FIGURES":
        return int(word)
    return None if kind == "END" and word == NO_END else fraction_in(word)


def is_line(words):
    """Whether words are those of a line that is told."""
    if len(words) == 0 or words[0] not in FORMS:
        return False
    kinds = FORMS[words[0]]
    return len(words) == len(kinds) + 1 and all([is_of_kind(kind, word) for kind, word in zip(kinds, words[1:])])


def say_text(book):
    """The shown text of the scene."""
    return show(book.scene())


def say_fits(book):
    """Whether something fits."""
    return "yes" if book.fits() else "no"


def say_latest(book):
    """The place and the moment of the latest point."""
    point = book.latest()
    if point is None:
        return "none"
    return " ".join([figures(number_of(point, which), PLACES) for which in WORDS])


def say_at(book, x, y):
    """From when to when moments are let at a place."""
    moments = moments_at(book.scene(), (x, y))
    if moments is None:
        return "none"
    first, last = [NO_END if moment is None else figures(moment, PLACES) for moment in moments]
    return f"from {first} to {last}"


def say_wrong(book):
    """The least lots of readings that must be wrong."""
    lots = book.least_wrong()
    if len(lots) == 0:
        return "no place"
    if lots == ((),):
        return "none has to be"
    return " / ".join([",".join(lot) for lot in lots])


def say_picture(book, west, south, east, north, many):
    """The signs of a window, row by row."""
    return "/".join(signs(book.scene(), ((west, south), (east, north), many)))


ANSWERS = {
    "text": say_text, "fits": say_fits, "latest": say_latest, "at": say_at, "wrong": say_wrong, "picture": say_picture,
}


def work_told(book):
    """The work of what was done last."""
    work = book.work()
    if work is None:
        return "nothing yet"
    stayed, made, looked = work
    return f"{stayed} stayed, {made} made, {looked} looked"


def deed_of(book, word):
    """The deed of a book that a line of a first word does; None if it does none."""
    deeds = {
        "station": book.put_station, "heard": book.put_reading, "side": book.put_side, "strike": book.strike,
        "remove": book.strike_station, "undo": book.undo, "redo": book.redo,
    }
    return deeds.get(word)


def answer_to(book, word, told):
    """The answer to a line of a first word and what the words behind it tell."""
    deed = deed_of(book, word)
    if deed is not None:
        deed(*told)
        return "done"
    if word == "work":
        return work_told(book)
    if book.scene() is None:
        return "empty"
    say = ANSWERS[word]
    return say(book, *told)


class Console:
    """A book, and answers to lines about it."""

    def __init__(self):
        self.book = Book()

    def said(self, line):
        """The answer to a line."""
        if not isinstance(line, str):
            raise InvalidLine(line)
        words = [word for word in line.split(" ") if word != ""]
        if not is_line(words):
            return "?"
        told = [told_by(kind, word) for kind, word in zip(FORMS[words[0]], words[1:])]
        try:
            return answer_to(self.book, words[0], told)
        except InvalidName:
            return "? InvalidName"
        except InvalidReading:
            return "? InvalidReading"
        except InvalidSide:
            return "? InvalidSide"
        except InvalidWindow:
            return "? InvalidWindow"
        except SamePlace:
            return "? SamePlace"
        except TooMany:
            return "? TooMany"
        except Unknown:
            return "? Unknown"
        except InUse:
            return "? InUse"
        except Taken:
            return "? Taken"
        except NothingToUndo:
            return "? NothingToUndo"
        except NothingToRedo:
            return "? NothingToRedo"
