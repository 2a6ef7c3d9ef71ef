"""The console: every line beside a book and the functions; words that are none; rows of lines beside the deeds that stayed."""

import random
import unittest
from fractions import Fraction

from helping import ODD, ONE, pair_of
from latestshake.books import Book
from latestshake.candidates import fits, latest
from latestshake.console import Console
from latestshake.errors import InvalidLine, ShakeError
from latestshake.numbers import figures
from latestshake.pictures import signs
from latestshake.points import number_of
from latestshake.scenes import moments_at
from latestshake.text import read, show
from latestshake.wrong import least_lots

ASKING = ["text", "fits", "latest", "at 0 0", "wrong", "picture 0 0 1 1 2"]
SMALL = ["station a 0 0", "station b 6 0", "heard r a 0 5", "heard q b 1 5", "side s 0 -1 -4"]


def told(*lines):
    console = Console()
    return [console.said(line) for line in lines]


def after(*lines):
    return told(*lines)[-1]


class Lines(unittest.TestCase):
    def test_deeds(self):
        console = Console()
        self.assertEqual([console.said(line) for line in SMALL], ["done"] * 5)
        self.assertEqual(console.book.scene(), read(
            "station a at 0 0; station b at 6 0; heard b from 1 to 5; heard a from 0 to 5; side 0 -1 up to -4;"))
        self.assertEqual(console.book.labels(), (("q", "r"), ("s",)))
        self.assertEqual([console.said(line) for line in ("heard r a -1/2 -", "heard q b - 10/4", "side s 1/3 -2/5 7/14", "station b 1/2 -3/9")],
                         ["done"] * 4)
        self.assertEqual(console.said("text"),
                         "station a at 0 0;\nstation b at 1/2 -1/3;\nheard b to 5/2;\nheard a from -1/2;\nside 1/3 -2/5 up to 1/2;")
        self.assertEqual([console.said(line) for line in ("strike q", "strike s", "remove b", "undo", "undo", "redo")], ["done"] * 6)
        self.assertEqual(console.said("text"), "station a at 0 0;\nstation b at 1/2 -1/3;\nheard a from -1/2;")
        self.assertEqual((console.book.steps(), Console().book.steps()), (11, 0))

    def test_blanks(self):
        console = Console()
        for line in (" station a 0 0", "station a 0 0 ", "  station   a  0    0   ", "station a 0 0"):
            self.assertEqual(console.said(line), "done")
            self.assertEqual(console.said(line=line), "done")
        self.assertEqual(console.said("   fits   "), "yes")
        # Only blanks part words.
        for line in ("station\ta 0 0", "station a 0 0\n", "\nfits", "fits\n", "fits\t", "fi ts", "fits;", "\u00a0fits", "fits\r", "fits\x00"):
            self.assertEqual(console.said(line), "?")
        self.assertEqual(console.said("strike a\tb"), "? InvalidName")
        self.assertEqual(console.said("strike a\nb"), "? InvalidName")

    def test_what_is_none(self):
        right = ["station a 0 0", "heard r a 0 5", "side s 0 1 2", "strike r", "remove a", "undo", "redo", "picture 0 0 1 1 2", "at 0 0",
                 "work", *ASKING]
        for start in ([], SMALL, [*SMALL, "undo"]):
            console = Console()
            for line in start:
                console.said(line)
            ahead = (console.book.scene(), console.book.steps(), console.book.work())
            for line in ["", " ", "   ", "?", "x", "done", "empty", ";", "-", "0", "stations a 0 0", "Station a 0 0", "FITS", "said", "quit", "help"]:
                self.assertEqual(console.said(line), "?")
            for line in right:
                words = line.split()
                self.assertEqual(console.said(line + " 0"), "?")
                self.assertEqual(console.said(line + " x"), "?")
                self.assertEqual(console.said("0 " + line), "?")
                self.assertEqual(console.said(words[0].upper() + line[len(words[0]):]), "?")
                self.assertEqual(console.said(words[0] + "x" + line[len(words[0]):]), "?")
                if len(words) > 1:
                    self.assertEqual(console.said(" ".join(words[:-1])), "?")
                    self.assertEqual(console.said(words[0]), "?")
            self.assertEqual((console.book.scene(), console.book.steps(), console.book.work()), ahead)

    def test_numerals(self):
        wrong = ["", "+1", "--1", "01", "00", "-0", "-0/5", "1/0", "1/00", "1/02", "1/-2", "1/", "/2", "-", "1.5", "1e3", "x", "1_0", "0x1",
                 "1/2/3", "\u0661", "1" * 401, "1/" + "1" * 401, "-" + "1" * 401, "1,5", "\u00bd", "None"]
        forms = [("station a {} 0", False), ("station a 0 {}", False), ("heard r a {} 5", True), ("heard r a 0 {}", True),
                 ("side s {} 1 2", False), ("side s 1 {} 2", False), ("side s 1 1 {}", False), ("at {} 0", False), ("at 0 {}", False),
                 ("picture {} 0 1 1 2", False), ("picture 0 {} 1 1 2", False), ("picture 0 0 {} 1 2", False), ("picture 0 0 1 {} 2", False)]
        for form, may_be_none in forms:
            for word in wrong:
                expected = "done" if may_be_none and word == "-" else "?"
                self.assertEqual(after(*SMALL, form.format(word)), expected, (form, word))
            for word in ("0", "0/7", "2/4", "-3", "-3/1", "-12/18", "9" * 400, "-" + "9" * 400, "1/" + "9" * 400):
                self.assertNotEqual(after("station a 0 0", "station z 9 9", form.format(word)), "?")
        for word in [*wrong, "-1", "-2", "2/1", "1/2", "02"]:
            self.assertEqual(after(*SMALL, f"picture 0 0 1 1 {word}"), "?")
        self.assertEqual(after("station a 2/4 -6/3", "text"), "station a at 1/2 -2;")

    def test_names_and_labels_are_any_words(self):
        for word in ("A", "a1", "at", "station", "side", "up", "abcdefghijklm", "-", "0", "1/2", ";", "a;", "\u00e4", "a\tb", "?"):
            for form in ("station {} 0 0", "heard {} a 0 5", "heard r {} 0 5", "side {} 0 1 2", "strike {}", "remove {}"):
                self.assertEqual(after(*SMALL, form.format(word)), "? InvalidName", (form, word))
            # That the words are none of the line's is told ahead of it.
            for form in ("station {} 0 x", "heard {} a 0", "heard r {} 0 1/0", "side {} 0 1 -", "strike {} a", "remove {} 0"):
                self.assertEqual(after(*SMALL, form.format(word)), "?")

    def test_each_error(self):
        for line, answer in [
            ("station c 0 0", "? SamePlace"), ("remove c", "? Unknown"), ("remove a", "? InUse"), ("heard t a - -", "? InvalidReading"),
            ("heard t a 2 1", "? InvalidReading"), ("heard s a 0 1", "? Taken"), ("heard t c 0 1", "? Unknown"),
            ("heard s c 0 1", "? Taken"), ("heard s c 1 0", "? InvalidReading"), ("heard S c 1 0", "? InvalidName"),
            ("side r 1 0 0", "? Taken"), ("side t 0 0 1", "? InvalidSide"), ("side r 0/5 0 1", "? InvalidSide"), ("strike t", "? Unknown"),
            ("redo", "? NothingToRedo"), ("picture 0 0 1 1 0", "? InvalidWindow"), ("picture 0 0 1 1 25", "? InvalidWindow"),
            ("picture 0 0 1 1 " + "9" * 400, "? InvalidWindow"), ("picture 0 0 0 1 2", "? InvalidWindow"),
            ("picture 0 0 1 0 2", "? InvalidWindow"), ("picture 1 0 0 1 2", "? InvalidWindow"), ("picture 0 0 2/2 2/4 1", "."),
        ]:
            self.assertEqual(after(*SMALL, line), answer, line)
        self.assertEqual(after("undo"), "? NothingToUndo")
        self.assertEqual(after("redo"), "? NothingToRedo")
        self.assertEqual(after("strike r"), "? Unknown")
        full = [f"station {name} {index} 0" for index, name in enumerate("abcdefghijkl")]
        self.assertEqual(told(*full, "station m 12 0", "station a 0 0", "station m 0 0")[12:], ["? TooMany", "done", "? SamePlace"])
        full = ["station a 0 0"] + [f"heard {name} a {index} -" for index, name in enumerate("abcdefghijkl")]
        self.assertEqual(told(*full, "heard m a 0 1", "heard a a 0 1")[13:], ["? TooMany", "done"])
        full = ["station a 0 0"] + [f"side {name} {index} 1 9" for index, name in enumerate("abcdefgh")]
        self.assertEqual(told(*full, "side m 1 1 1", "side a 1 1 1", "fits")[9:], ["? TooMany", "done", "yes"])

    def test_empty(self):
        for start in ([], ["side s 1 0 0"], ["station a 0 0", "remove a"], ["station a 0 0", "undo"], [*SMALL, *["undo"] * 5],
                      ["heard r a 0 1"], ["station a 0 0", "heard r a 0 1", "strike r", "remove a"]):
            for line in ASKING:
                self.assertEqual(after(*start, line), "empty")
            # "?" ahead of it; but not a window that is none.
            for line in ("text 0", "at 0", "picture 0 0 1 1", "picture 0 0 1 1 -1", "at 0 x"):
                self.assertEqual(after(*start, line), "?")
            self.assertEqual(after(*start, "picture 0 0 0 0 0"), "empty")
            self.assertNotEqual(after(*start, "work"), "empty")
        self.assertEqual(after("work"), "nothing yet")
        self.assertEqual(after("station A 0 0", "fits", "undo", "?", "work"), "nothing yet")
        self.assertEqual(after("side s 1 0 0", "work"), "0 stayed, 0 made, 0 looked")

    def test_fits_latest_at_wrong(self):
        self.assertEqual(told(*SMALL, "fits", "latest", "at 3 4", "at 0 4", "at 20 4", "at 0 0", "wrong")[5:], [
            "yes", "3.000 4.000 0.000", "from -4.000 to 0.000", "from -4.000 to -2.212", "none", "none", "none has to be"])
        clash = ["station a 0 0", "station b 6 0", "heard r a 0 1", "heard q b 8 9", "heard p a 0 5"]
        self.assertEqual(told(*clash, "fits", "latest", "wrong", "at 0 0")[5:], ["no", "none", "q / r", "none"])
        three = ["station a 0 0", *[f"heard {name} a {low} {low}" for low, name in enumerate("xyz")]]
        self.assertEqual(after(*three, "wrong"), "x,y / x,z / y,z")
        self.assertEqual(told(*three, "side s 1 0 0", "side t -1 0 -1", "wrong", "fits", "latest", "at 0 0")[6:], ["no place", "no", "none", "none"])
        self.assertEqual(told("station a 0 0", "fits", "latest", "at 5 5", "wrong")[1:], ["yes", "none", "from - to -", "none has to be"])
        self.assertEqual(told("station a 0 0", "side s 1 0 0", "side t -1 0 -1", "wrong", "fits", "latest")[3:], ["no place", "no", "none"])
        self.assertEqual(told("station a 0 0", "heard r a 2 -", "at 3 4", "at 1 1", "latest")[2:], ["from -3.000 to -", "from 0.585 to -", "none"])
        self.assertEqual(told("station a 0 0", "heard r a - 2", "at 3 4", "at 1 1", "latest")[2:], ["from - to -3.000", "from - to 0.585", "0.000 0.000 2.000"])
        # Figures are the greatest decimal that is not above: below 0, too.
        self.assertEqual(after("station a -1/3 1/3", "heard r a - -1/7", "latest"), "-0.334 0.333 -0.143")

    def test_picture(self):
        self.assertEqual(after("station a 0 0", "heard r a - 2", "undo", "picture -1 -1 1 1 2"), "##/##")
        self.assertEqual(after("station a 0 0", "side s 1 0 -1", "picture -3 -3 3 3 3"), "#+./#+./#+.")
        self.assertEqual(after("station a 0 0", "side s 1 0 0", "side t 0 1 0", "picture -2/2 -1 1 3/3 2"), "++/#+")
        self.assertEqual(after("station a 0 0", "picture 0 0 1 1 1"), "#")
        self.assertEqual(after("station a 0 0", "picture 0 0 1 1 24"), "/".join(["#" * 24] * 24))
        for text in ("-1/2 0 1 5/2", "0 -3 4 4"):
            window = [pair_of(Fraction(word)) for word in text.split()]
            console = Console()
            for line in SMALL:
                console.said(line)
            for many in (1, 3, 8):
                self.assertEqual(console.said(f"picture {text} {many}"),
                                 "/".join(signs(console.book.scene(), (tuple(window[:2]), tuple(window[2:]), many))))

    def test_work(self):
        console = Console()
        for line in [*SMALL, "undo", "redo", "station b 6 1", "heard r a 0 5", "strike q", "undo"]:
            console.said(line)
            self.assertEqual(console.said("work"), "{} stayed, {} made, {} looked".format(*console.book.work()))
        self.assertEqual(told("station a 0 0", "side s 1 0 5", "work")[2], "0 stayed, 2 made, 2 looked")

    def test_great_numbers(self):
        """No line raises an error, however great the numbers of 400 figures are."""
        big, small = "9" * 400, "1/" + "9" * 400
        for x, y, low in ((big, small, big), (small, small, "-" + big), ("0", big, small)):
            console = Console()
            for line in (f"station a {x} {y}", "station b 0 0", f"station c {small} 7", f"heard r a {low} -", f"heard q b - {big}",
                         f"heard p c - {small}", f"side s {x} 1 {big}", f"side t {small} 1 {low}"):
                self.assertEqual(console.said(line), "done")
            for line in (*ASKING, "work", f"at {x} {low}", f"picture 0 0 {big} {big} 1", f"picture 0 0 {small} {small} 2"):
                self.assertIsInstance(console.said(line), str)

    def test_no_text(self):
        console = Console()
        for value in [value for value in [*ODD, 0, ONE, b"fits", ["fits"], ("fits",)] if not isinstance(value, str)]:
            for call in (lambda: console.said(value), lambda: console.said(line=value)):
                with self.assertRaises(InvalidLine) as caught:
                    call()
                self.assertIs(caught.exception.given, value)
        self.assertIsInstance(console.book, Book)
        self.assertEqual(console.said("work"), "nothing yet")


def some_line(chance):
    """Lines of all kinds, some of which are refused, some none."""
    name, label = chance.choice("abc"), chance.choice("pqrst")
    numbers = [str(Fraction(chance.randint(-4, 6), chance.choice([1, 1, 2]))) for _ in range(4)]
    low = Fraction(chance.randint(-3, 5))
    ends = chance.choice([(low, low + 1), (low, low + 4), (low, "-"), ("-", low), (low, low - 1), ("-", "-")])
    return chance.choice([
        f"station {name} {numbers[0]} {numbers[1]}", f"heard {label} {name} {ends[0]} {ends[1]}", f"heard {label} {name} {ends[0]} {ends[1]}",
        f"heard {label} {name} {ends[0]} {ends[1]}", f"side {label} {numbers[0]} {numbers[1]} {numbers[2]}", f"strike {label}",
        f"station {name} 0 0", f"station {name} 0 0", f"remove {name}", "undo", "undo", "redo", f"heard {label} {name} 1", "what", "strike 7"])


class Rows(unittest.TestCase):
    def answers(self, console):
        return [console.said(line) for line in [*ASKING, "at 3 4", "at -1/2 2", "picture -4 -4 4 4 3"]]

    def by_functions(self, scene, labels):
        """What the functions tell of a scene, as the console says it."""
        if scene is None:
            return ["empty"] * 9
        lots = least_lots(scene)
        said = " / ".join(",".join(labels[0][index] for index in lot) for lot in lots)
        last = latest(scene)
        found = [show(scene), "yes" if fits(scene) else "no"]
        found.append("none" if last is None else " ".join(figures(number_of(last, which), 3) for which in "xyt"))
        at = [self.moments(scene, x, y) for x, y in ((0, 0), (3, 4), (Fraction(-1, 2), 2))]
        pictures = ["/".join(signs(scene, ((pair_of(a), pair_of(a)), (pair_of(b), pair_of(b)), many))) for a, b, many in ((0, 1, 2), (-4, 4, 3))]
        wrong = "no place" if not lots else "none has to be" if lots == ((),) else said
        return [*found, at[0], wrong, pictures[0], at[1], at[2], pictures[1]]

    def moments(self, scene, x, y):
        told = moments_at(scene, (pair_of(x), pair_of(y)))
        if told is None:
            return "none"
        first, last = ["-" if moment is None else figures(moment, 3) for moment in told]
        return f"from {first} to {last}"

    def test_beside_the_deeds_that_stayed(self):
        seen = set()
        for seed in range(30):
            chance, console = random.Random(seed), Console()
            stayed, undone = [], []
            for _ in range(40):
                line = some_line(chance)
                answer = console.said(line)
                seen.add(answer)
                if answer == "done" and line == "undo":
                    undone.append(stayed.pop())
                elif answer == "done" and line == "redo":
                    stayed.append(undone.pop())
                elif answer == "done":
                    stayed, undone = [*stayed, line], []
            alone = Console()
            for line in stayed:
                self.assertEqual(alone.said(line), "done")
            self.assertEqual(self.answers(console), self.answers(alone))
            self.assertEqual(self.answers(console), self.by_functions(console.book.scene(), console.book.labels()))
            self.assertEqual(console.book.kept(), alone.book.kept())
        self.assertLessEqual({"?", "done", "? Unknown", "? InvalidReading", "? Taken", "? InUse", "? NothingToRedo", "? NothingToUndo",
                              "? SamePlace", "? InvalidName"}, seen)

    def test_shown_text_is_read_again(self):
        for seed in range(60, 75):
            chance, console = random.Random(seed), Console()
            for _ in range(25):
                console.said(some_line(chance))
            text = console.said("text")
            if text != "empty":
                self.assertEqual(read(text), console.book.scene())
                self.assertEqual(self.by_functions(read(text), console.book.labels()), self.answers(console))

    def test_errors_are_the_books(self):
        """The class that a line is answered with is that of the error that the book raises for its deed."""
        for seed in range(80, 100):
            chance, console, book = random.Random(seed), Console(), Book()
            for _ in range(40):
                line = some_line(chance)
                answer = console.said(line)
                if answer == "?":
                    continue
                word, *words = line.split()
                words = [None if part == "-" else pair_of(Fraction(part)) if part[-1].isdigit() and word != "strike" else part for part in words]
                deed = {"station": "put_station", "heard": "put_reading", "side": "put_side", "remove": "strike_station"}.get(word, word)
                try:
                    getattr(book, deed)(*words)
                    self.assertEqual(answer, "done")
                except ShakeError as error:
                    self.assertEqual(answer, "? " + type(error).__name__)
            self.assertEqual(console.book.scene(), book.scene())
            self.assertEqual(console.book.work(), book.work())

    def test_consoles_are_apart(self):
        one, other = Console(), Console()
        one.said("station a 0 0")
        self.assertEqual((one.said("fits"), other.said("fits")), ("yes", "empty"))
        self.assertIsNot(one.book, other.book)
        self.assertIsNone(one.book.latest())


if __name__ == "__main__":
    unittest.main()
