"""Texts: how scenes are shown, which texts are read, and where others are refused."""

import random
import re
import unittest
from fractions import Fraction

from helping import NIL, ODD, ONE, SCENE, TWO, WRONG_SCENES, nested, pair_of, refusals, some_scenes
from latestshake.errors import InvalidScene, InvalidText
from latestshake.scenes import is_scene, wrong_in
from latestshake.text import read, show

LONE = ((("a", NIL, NIL),), (), ())
FORMS = ("SNAQQ;", "HNFQ;", "HNTQ;", "HNFQTQ;", "DQQUTQ;")
LETTERS = {"station": "S", "at": "A", "heard": "H", "from": "F", "to": "T", "side": "D", "up": "U", ";": ";"}
WHOLE = re.compile("(" + "|".join(FORMS) + ")*")
AHEAD = re.compile(WHOLE.pattern + "(" + "|".join({form[:many] for form in FORMS for many in range(len(form))}) + ")")
NUMERAL = re.compile("-?[1-9][0-9]{0,399}(/[1-9][0-9]{0,399})?|0(/[1-9][0-9]{0,399})?")


def letter_of(word):
    """A letter for each kind of words; X for what is of none."""
    if word in LETTERS:
        return LETTERS[word]
    if re.fullmatch("[a-z]{1,12}", word):
        return "N"
    return "Q" if NUMERAL.fullmatch(word) else "X"


def place_in(text):
    """Where a text is refused, found by patterns over letters for words; None if it is not."""
    letters = ""
    for match in re.finditer("[^ \n;]+|;", text):
        letters += letter_of(match.group())
        if not AHEAD.fullmatch(letters):
            return match.start()
    return None if WHOLE.fullmatch(letters) else len(text)


class Read(unittest.TestCase):
    def refused(self, text, place):
        for call in (lambda: read(text), lambda: read(text=text)):
            with self.assertRaises(InvalidText) as caught:
                call()
            self.assertIs(caught.exception.__class__, InvalidText)
            self.assertEqual(caught.exception.place, place, text[:200] if isinstance(text, str) else text)

    def no_scene(self, text, path):
        for call in (lambda: read(text), lambda: read(text=text)):
            with self.assertRaises(InvalidScene) as caught:
                call()
            self.assertIs(caught.exception.__class__, InvalidScene)
            self.assertEqual(caught.exception.path, path)

    def test_by_hand(self):
        for text, scene in [
            ("station a at 0 0;", LONE), ("station a at 0 0 ;", LONE), ("\n\n station  a\nat 0\n\n0;\n", LONE),
            ("station a at 0/7 0/1;", LONE), ("station\na\nat\n0\n0\n;", LONE),
            ("heard a to 2/4;station a at -1 3/2;", ((("a", (-1, 1), (3, 2)),), (("a", None, (1, 2)),), ())),
            ("station a at -6/4 12/3;heard a from -4/6;heard a from -4/6 to 1;heard a to 10/10;",
             ((("a", (-3, 2), (4, 1)),), (("a", (-2, 3), None), ("a", (-2, 3), ONE), ("a", None, ONE)), ())),
            ("side 1 0 up to -3;side 0 -1/2 up to 0 ; station b at 1 1;station a at 0 0;",
             ((("b", ONE, ONE), ("a", NIL, NIL)), (), ((ONE, NIL, (-3, 1)), (NIL, (-1, 2), NIL)))),
            ("station abcdefghijkl at 0 0;heard abcdefghijkl from 0;", ((("abcdefghijkl", NIL, NIL),), (("abcdefghijkl", NIL, None),), ())),
            ("station x at 0 0;station sides at 1 0;", ((("x", NIL, NIL), ("sides", ONE, NIL)), (), ())),
        ]:
            self.assertEqual(read(text), scene)
            self.assertEqual(read(text=text), scene)

    def test_parts_in_another_order(self):
        parts = ["station a at 0 0;", "heard b to 5;", "side 1 0 up to 3;", "station b at 6 0;", "heard a from 1;", "side 0 1 up to 2;"]
        chance = random.Random(1)
        for _ in range(30):
            chance.shuffle(parts)
            stations, readings, sides = read(chance.choice(["", " ", "\n"]).join(parts))
            self.assertEqual([row[0] for row in stations], [part[8] for part in parts if part[1] == "t"])
            self.assertEqual([row[0] for row in readings], [part[6] for part in parts if part[0] == "h"])
            self.assertEqual([row[2][0] for row in sides], [int(part[-2]) for part in parts if part[1] == "i"])

    def test_numerals(self):
        for word, told in [
            ("0", NIL), ("7", (7, 1)), ("-7", (-7, 1)), ("10", (10, 1)), ("9" * 400, (10 ** 400 - 1, 1)), ("-" + "9" * 400, (1 - 10 ** 400, 1)),
            ("1/2", (1, 2)), ("-1/2", (-1, 2)), ("2/4", (1, 2)), ("-6/3", (-2, 1)), ("0/5", NIL), ("5/1", (5, 1)), ("100/10", (10, 1)),
            ("1/" + "9" * 400, (1, 10 ** 400 - 1)), ("9" * 400 + "/" + "3" * 400, (3, 1)), ("1234567890/10", (123456789, 1)),
        ]:
            self.assertEqual(read(f"station a at 5 {word};"), ((("a", (5, 1), told),), (), ()))
            self.assertEqual(read(f"station a at {word} 5;"), ((("a", told, (5, 1)),), (), ()))
        for word in [
            "-0", "007", "00", "01", "-01", "1/0", "-0/5", "0/0", "1/00", "1/02", "1/", "/2", "/", "-", "--1", "-/2", "1/-2", "-1/-2", "+1",
            "1/+2", "1.5", "1e5", "1_000", "1,5", "1/2/3", "1//2", "1-", "0x1", "a", "1a", "a1", "\u0661", "\u00b2", "1/\u0661", "1\u00bd",
            "1" + "0" * 400, "-1" + "0" * 400, "1/1" + "0" * 400, "1" + "0" * 400 + "/1", "0" * 400, "0/" + "1" * 401, "1\t", "1\r", "\x0b1",
            "to", "station", "up", "None", "True", "1\u00a02", "1" * 5000, "-",
        ]:
            self.refused(f"station a at 5 {word};", 15)
            self.refused(f"station a at {word} 5;", 13)
            self.refused(f"station a at 0 0;heard a from {word};", 30)
            self.refused(f"station a at 0 0;heard a from 1 to {word};", 35)
            self.refused(f"side 1 {word} up to 3;", 7)
            self.refused(f"side 1 1 up to {word};", 15)

    def test_names(self):
        for word in ("a", "z", "abcdefghijkl", "stations", "att", "hear", "fro", "too", "sid", "u", "upto", "none"):
            self.assertEqual(read(f"station {word} at 0 0;heard {word} to 1;"), (((word, NIL, NIL),), ((word, None, ONE),), ()))
        for word in ["A", "aB", "abcdefghijklm", "station", "at", "heard", "from", "to", "side", "up", "a1", "1", "-", "a-b", "a_b", "\u00e4",
                     "\uff41", "a\t", "a\r", "\ta", "a" * 3000, "1/2", "\u0430", "\ud800", "'a'"]:
            self.refused(f"station {word} at 0 0;", 8)
            self.refused(f"heard {word} to 0;", 6)
        self.refused("station ; at 0 0;", 8)

    def test_place_of_the_first_word_that_no_text_goes_on_with(self):
        for text, place in [
            ("station a at 0 0; heard a to 5 side", 31), ("stations", 0), ("  Station a at 0 0;", 2), (";", 0), ("station a at 0 0;;", 17),
            ("a", 0), ("0", 0), ("at", 0), ("station a 0 0;", 10), ("station at 0 0;", 8), ("station a at 0;", 14), ("station a at 0 0 0;", 17),
            ("heard a 5;", 8), ("heard a from 1 from 2;", 15), ("heard a to 5 from 1;", 13), ("heard a from 1 to 5 to 6;", 20),
            ("heard a from 1 up to 5;", 15), ("heard a from to 5;", 13), ("heard a at 5;", 8), ("side 1 0 to 3;", 9), ("side 1 0 up 3;", 12),
            ("side 1 0 up to;", 14), ("side a 1 0 up to 3;", 5), ("side 1 up to 3;", 7), ("side 1 0 up to 3 3;", 17), ("station a at 0 0;x", 17),
            ("station a at 0 0,", 15), ("station a\tat 0 0;", 8), ("\tstation a at 0 0;", 0), ("station a at 0 0\t;", 15), ("station a at 0 0;\t", 17),
            ("station a at 0 0;\r\n", 17), ("station a at 0 0 ;\r\nheard a to 5;", 18), ("station A", 8), ("heard a to b;", 11),
            ("\n\nside 1 0\nup\nto side", 17), ("station a at 1/0 b", 13), ("\ufeffstation a at 0 0;", 0), ("station\u00a0a at 0 0;", 0),
        ]:
            self.refused(text, place)
            self.assertEqual(place_in(text), place, text)

    def test_ends_too_soon(self):
        for text in ("station", "station a", "station a at", "station a at 0", "station a at 0 0", "heard", "heard a", "heard a from", "heard a to",
                     "heard a from 1", "heard a from 1 to", "heard a from 1 to 5", "heard a to 5", "side", "side 1", "side 1 0", "side 1 0 up",
                     "side 1 0 up to", "side 1 0 up to 3"):
            for behind in ("", " ", "\n", "  \n "):
                for ahead in ("", "\n", "station b at 1 1; "):
                    self.refused(ahead + text + behind, len(ahead + text + behind))

    def test_no_text(self):
        for value in [row for row in ODD if not isinstance(row, str)] + [0, 1, ONE, b"station a at 0 0;", ("station a at 0 0;",), nested(19), SCENE]:
            self.refused(value, None)

    def test_many_signs(self):
        told = "station a at 0 0;"
        self.assertEqual(read(told + " " * (100000 - len(told))), LONE)
        self.assertEqual(read("\n" * (100000 - len(told)) + told), LONE)
        self.refused(told + " " * (100001 - len(told)), None)
        self.refused("\n" * (100001 - len(told)) + told, None)
        self.refused(" " * 100001, None)
        self.refused("x" * 100001, None)
        self.refused("x" * 100000, 0)
        self.refused(" " * 99999 + "x", 99999)
        self.refused(told + " " * (99999 - len(told)) + "x", 99999)
        self.refused("station" + " " * 99993, 100000)
        self.refused(";" * 100000, 0)
        self.refused("x" * 200000, None)
        # However many stations there are, it is a text; then it is no scene.
        self.no_scene(told * 5000, (0,))
        self.refused(told * 5000 + "x", 85000)

    def test_no_scene(self):
        for text, path in [
            ("", (0,)), (" \n ", (0,)), ("heard a to 5;", (0,)), ("side 1 0 up to 5;", (0,)), ("station a at 0 0;station a at 1 1;", (0, 1)),
            ("station a at 0 1/2;station b at 0/3 2/4;", (0, 1)), ("station a at 0 0;heard b to 5;", (1, 0, 0)),
            ("heard b to 5;station a at 0 0;station b at 1 1;heard c from 1;", (1, 1, 0)), ("station a at 0 0;heard a from 5 to 4;", (1, 0)),
            ("station a at 0 0;heard a to 4;heard a from 1/2 to 2/5;", (1, 1)), ("station a at 0 0;side 0 0 up to 5;", (2, 0)),
            ("side 0 0/5 up to 5;side 1 0 up to 1;station a at 0 0;", (2, 0)), ("heard a from 5 to 4;side 0 0 up to 1;station a at 0 0;", (1, 0)),
            ("heard a from 5 to 4;side 0 0 up to 1;station a at 0 0;station b at 0 0;", (0, 1)),
            ("".join(f"station {'abcdefghijklm'[k]} at {k} 0;" for k in range(13)), (0,)),
            ("station a at 0 0;" + "heard a to 5;" * 13, (1,)), ("station a at 0 0;" + "side 1 0 up to 5;" * 9, (2,)),
        ]:
            self.no_scene(text, path)
        # The words come ahead of what they tell.
        self.refused("station a at 0 0;station a at 0 0;heard b from 5 to 4 4;", 54)
        self.refused("heard a to 5", 12)
        self.assertEqual(len(read("station a at 0 0;" + "heard a to 5;" * 12 + "side 1 0 up to 5;" * 8)[1]), 12)

    def test_words_left_out_put_in_exchanged(self):
        chance, seen = random.Random(2), {True: 0, False: 0}
        others = ["station", "at", "heard", "from", "to", "side", "up", ";", "a", "abcdefghijklm", "0", "-1/2", "-0", "X", "\t", "1/0", "7/3"]
        scenes = [scene for scene in some_scenes(3, 60) if scene[1]]
        for _ in range(3000):
            words = show(chance.choice(scenes)).replace(";", " ;").split()
            for _ in range(chance.randint(0, 2)):
                index = chance.randrange(len(words))
                way = chance.randrange(4)
                if way == 0:
                    del words[index]
                elif way == 1:
                    words.insert(index, chance.choice(others))
                elif way == 2:
                    words[index] = chance.choice(others)
                else:
                    other = chance.randrange(len(words))
                    words[index], words[other] = words[other], words[index]
            text = chance.choice(["", " ", "\n"]) + "".join(word + chance.choice([" ", "\n", "  "]) for word in words)
            text = text.replace(" ;", chance.choice([";", " ;"]))
            place = place_in(text)
            seen[place is None] += 1
            if place is not None:
                self.refused(text, place)
            else:
                try:
                    self.assertTrue(is_scene(read(text)))
                except InvalidScene as error:
                    self.assertIn(error.path[:1], [(0,), (1,), (2,)])
        self.assertGreater(min(seen.values()), 300)

    def test_cut_at_each_word_and_each_sign(self):
        text = show(SCENE)
        for many in range(len(text)):
            place = place_in(text[:many])
            if place is not None:
                self.refused(text[:many], place)
            elif many == 0:
                self.no_scene("", (0,))
            else:
                read(text[:many])
        words = [match.start() for match in re.finditer("[^ \n;]+|;", text)]
        for start in words:
            ahead = text[:start]
            if not ahead.rstrip().endswith(";") and ahead:
                self.refused(ahead, start)


class Show(unittest.TestCase):
    def check(self, scene):
        text = show(scene)
        self.assertEqual(show(scene=scene), text)
        self.assertEqual(read(text), scene)
        self.assertEqual(text.count("\n") + 1, sum(len(part) for part in scene))
        for line in text.split("\n"):
            self.assertRegex(line, r"\A[a-z]+( [-a-z0-9/]+)+;\Z")
        return text

    def test_by_hand(self):
        self.assertEqual(show(LONE), "station a at 0 0;")
        self.assertEqual(show(SCENE), "\n".join([
            "station a at 0 0;", "station b at 6 0;", "station abcdefghijkl at 3/2 -4/3;", "station stations at 0 9;", "heard b from 0 to 5;",
            "heard a to 5;", "heard stations from 1/2;", "heard b from 1 to 1;", "heard a from -7/2 to -10/3;", "side 0 -1 up to -4;",
            "side 1 0 up to 9;", "side 1/2 -2/3 up to 0;"]))
        self.assertEqual(show((LONE[0], (), ((TWO, (-1, 3), NIL),))), "station a at 0 0;\nside 2 -1/3 up to 0;")

    def test_are_read_again(self):
        for scene in [LONE, SCENE, *some_scenes(4, 300)]:
            self.check(scene)

    def test_great_ones(self):
        great = [pair_of(Fraction(top, bottom)) for top, bottom in (
            (10 ** 399 + 3, 1), (1 - 10 ** 400, 10 ** 399 + 7), (1, 10 ** 400 - 1), (10 ** 400 - 1, 10 ** 400 - 2))]
        stations = tuple(("abcdefghijkl"[:k + 1], great[k % 4], (10 ** 400 - 1 - k, 1)) for k in range(12))
        readings = tuple((stations[k][0], great[1], great[3]) for k in range(12))
        scene = (stations, readings, ((great[3], great[1], great[3]),) * 8)
        self.assertIsNone(wrong_in(scene))
        self.assertLessEqual(len(self.check(scene)), 100000)

    def test_unlike_scenes_have_unlike_texts(self):
        texts = {}
        for scene in some_scenes(5, 500):
            for alike in (scene, (scene[0], scene[1][::-1], scene[2]), (scene[0][::-1], scene[1], scene[2]), (scene[0], scene[1], scene[2][1:])):
                self.assertEqual(texts.setdefault(show(alike), alike), alike)
        self.assertEqual(len(texts), len(set(texts.values())))
        self.assertGreater(len(texts), 500)

    def test_refusals(self):
        refusals(self, show, [("scene", SCENE, InvalidScene, WRONG_SCENES)])


if __name__ == "__main__":
    unittest.main()
