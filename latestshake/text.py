"""Texts that tell scenes, word by word: stations, readings and sides in the order in which they come."""

from latestshake.errors import InvalidText
from latestshake.names import is_name
from latestshake.numerals import fraction_in, is_numeral, numeral_of
from latestshake.scenes import need_scene

MOST_SIGNS = 100000
END = ";"
# In great letters stand kinds of words, any one of which may come there.
FORMS = (
    ("station", "NAME", "at", "NUMERAL", "NUMERAL", ";"),
    ("heard", "NAME", "from", "NUMERAL", ";"),
    ("heard", "NAME", "to", "NUMERAL", ";"),
    ("heard", "NAME", "from", "NUMERAL", "to", "NUMERAL", ";"),
    ("side", "NUMERAL", "NUMERAL", "up", "to", "NUMERAL", ";"),
)


def words_in(text):
    """Pairs of each word of a text and the index of its first sign."""
    words, start = [], None
    for index, sign in enumerate(text):
        is_parting = sign in (" ", "\n", END)
        if is_parting and start is not None:
            words.append((text[start:index], start))
            start = None
        if sign == END:
            words.append((END, index))
        elif not is_parting and start is None:
            start = index
    if start is not None:
        words.append((text[start:], start))
    return words


def takes(due, word):
    """Whether a word is what is due."""
    if due == "NAME":
        return is_name(word)
    if due == "NUMERAL":
        return is_numeral(word)
    return word == due


def statements_in(text):
    """The rows of words that each follow one form from its first word to its end."""
    found, row, open_forms = [], [], FORMS
    for word, place in words_in(text):
        open_forms = [form for form in open_forms if takes(form[len(row)], word)]
        if len(open_forms) == 0:
            raise InvalidText(place)
        row.append(word)
        if word == END:
            found.append(row)
            row, open_forms = [], FORMS
    if len(row) > 0:
        raise InvalidText(len(text))
    return found


def number_behind(row, word):
    """The fraction that the row of words tells behind a word; None if it has not this word."""
    if word not in row:
        return None
    return fraction_in(row[row.index(word) + 1])


def read(text):
    """The scene that a text tells."""
    if not isinstance(text, str) or len(text) > MOST_SIGNS:
        raise InvalidText(None)
    stations, readings, sides = [], [], []
    for row in statements_in(text):
        if row[0] == "station":
            stations.append((row[1], fraction_in(row[3]), fraction_in(row[4])))
        elif row[0] == "heard":
            readings.append((row[1], number_behind(row, "from"), number_behind(row, "to")))
        else:
            sides.append((fraction_in(row[1]), fraction_in(row[2]), fraction_in(row[5])))
    scene = (tuple(stations), tuple(readings), tuple(sides))
    need_scene(scene)
    return scene


def shown_reading(reading):
    """The words by which a reading is told."""
    name, low, high = reading
    words = ["heard", name]
    if low is not None:
        words += ["from", numeral_of(low)]
    if high is not None:
        words += ["to", numeral_of(high)]
    return words


def show(scene):
    """The text that tells a scene, each station, reading and side in a line of its own."""
    need_scene(scene)
    stations, readings, sides = scene
    lines = [["station", name, "at", numeral_of(x), numeral_of(y)] for name, x, y in stations]
    lines += [shown_reading(reading) for reading in readings]
    lines += [["side", numeral_of(u), numeral_of(v), "up", "to", numeral_of(limit)] for u, v, limit in sides]
    return "\n".join([" ".join(line) + END for line in lines])
