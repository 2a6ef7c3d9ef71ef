"""The promise over the whole program: answers behind any deeds, of led scenes, of scenes shown and read again."""

import random
import unittest
from fractions import Fraction

from helping import FOUR, NIL, ONE, TWO, corners_of, led_point, pair_of, scene_of, sides_of, some_leads, some_scenes
from latestshake.books import Book
from latestshake.candidates import candidates, earliest, fits, fitting, latest
from latestshake.certificates import (certify_conflict, certify_fits, certify_in, certify_latest, certify_least, certify_likely,
                                      certify_lot)
from latestshake.checker import accepts
from latestshake.console import Console
from latestshake.leads import back, led_place, led_scene
from latestshake.numbers import compared, figures
from latestshake.pictures import drawing, signs
from latestshake.points import number_of
from latestshake.questions import possibly, shut_place, surely
from latestshake.scenes import broken_pair, is_let, moments_at, rows_of, states_at, within_sides
from latestshake.text import read, show
from latestshake.wrong import (cleared, conflicts, fewest, latest_likely, least_lots, least_stations, likely_point, point_without,
                               suspects)

SIDES = sides_of((1, 2, 3), (-1, 1, 5))
CORNERS = corners_of((-2, -1), (1, -2), (3, 1), (0, 2))
WINDOW = ((pair_of(-5), pair_of(-4)), (pair_of(5), pair_of(6)), 4)
LEADS = list(some_leads())


def answers(scene):
    """All that the functions tell of a scene."""
    lot = (0,) if scene[1] else ()
    told = [function(scene) for function in (
        rows_of, candidates, fitting, fits, latest, earliest, least_lots, fewest, suspects, cleared, conflicts, least_stations,
        certify_fits, certify_latest, certify_least, show)]
    told += [function(scene, many) for function in (likely_point, latest_likely, certify_likely) for many in (0, 1, 12)]
    told += [function(scene, lot) for function in (point_without, certify_lot, certify_conflict)]
    told += [shut_place(scene, CORNERS), signs(scene, WINDOW), drawing(scene, WINDOW)]
    if len(scene[2]) <= 6:
        told += [function(scene, SIDES) for function in (possibly, surely, certify_in)]
    return told + [function(scene, place) for function in (moments_at, broken_pair, within_sides) for place in CORNERS]


class Whole(unittest.TestCase):
    def test_shown_and_read_again(self):
        for scene in some_scenes(131, 40):
            again = read(show(scene))
            self.assertEqual(again, scene)
            self.assertEqual(answers(again), answers(scene))

    def test_equal_calls(self):
        for scene in some_scenes(132, 25):
            self.assertEqual(answers(scene), answers(scene))

    def test_books_and_consoles_from_nothing(self):
        """A book behind deeds, a console behind lines, tell what the functions tell of the scene."""
        chance = random.Random(133)
        for scene in some_scenes(134, 40):
            book, console = Book(), Console()
            stations, readings, sides = scene
            book.put_station("zz", pair_of(77), NIL)
            for name, x, y in chance.sample(stations, len(stations)):
                book.put_station(name, x, y)
            labels = "klmnopqr"
            for index in chance.sample(range(len(readings)), len(readings)):
                book.put_reading(labels[index], "zz", NIL, ONE)
                book.put_reading(labels[index], *readings[index])
                if chance.random() < 0.3:
                    book.undo()
                    book.redo()
            for index in chance.sample(range(len(sides)), len(sides)):
                book.put_side("s" + labels[index], *sides[index])
                book.put_side("t" + labels[index], ONE, ONE, TWO)
                if chance.random() < 0.5:
                    book.undo()
                else:
                    book.strike("t" + labels[index])
            book.strike_station("zz")
            self.assertEqual(book.scene(), (tuple(sorted(stations)), readings, sides))
            self.assertEqual(answers(book.scene()), answers((tuple(sorted(stations)), readings, sides)))
            self.assertEqual(tuple(row[:2] for row in book.kept()), candidates(book.scene()))
            self.assertEqual((book.fits(), book.latest()), (fits(scene), latest(book.scene())))
            for line in show(book.scene()).replace(";", "").split("\n"):
                words = line.split()
                if words[0] == "station":
                    words.remove("at")
                if words[0] == "side":
                    words = ["side", "s", *words[1:3], words[5]]
                if words[0] == "heard":
                    ends = dict(zip(words[2::2], words[3::2]))
                    words = ["heard", "r", words[1], ends.get("from", "-"), ends.get("to", "-")]
                words[1] = words[1] if words[0] == "station" else words[1] + "abcdefghijklmnopqrst"[console.book.steps()]
                self.assertEqual(console.said(" ".join(words)), "done")
            self.assertEqual(console.book.scene(), book.scene())
            self.assertEqual(console.said("text"), show(book.scene()))
            self.assertEqual(console.said("fits"), "yes" if fits(scene) else "no")

    def test_led(self):
        """Leads lead all answers along."""
        chance = random.Random(135)
        for scene in some_scenes(136, 60):
            lead = chance.choice(LEADS)
            led = led_scene(lead, scene)
            self.assertEqual(led_scene(back(lead), led), scene)
            for function in (rows_of, fits, least_lots, fewest, suspects, cleared, conflicts, least_stations):
                self.assertEqual(function(led), function(scene))
            for function in (latest, earliest, certify_latest):
                self.assertEqual(function(led) is None, function(scene) is None)
            for many in (0, 1, 2, 12):
                value, after = latest_likely(scene, many), latest_likely(led, many)
                self.assertEqual(value is None, after is None)
                if value is not None:
                    self.assertEqual(compared(number_of(led_point(lead, value), "t"), number_of(after, "t")), 0)
            corners = tuple(led_place(lead, place) for place in CORNERS)
            corners = corners[::-1] if lead[2] else corners
            self.assertEqual(shut_place(led, corners) is None, shut_place(scene, CORNERS) is None)
            value = shut_place(scene, CORNERS)
            if value is not None:
                self.assertIsNone(moments_at(led, led_place(lead, value)))
            if len(scene[2]) <= 6:
                sides = led_scene(lead, (scene[0], (), SIDES))[2]
                self.assertEqual(possibly(led, sides) is None, possibly(scene, SIDES) is None)
                self.assertIs(surely(led, sides), surely(scene, SIDES))
                value = possibly(scene, SIDES)
                if value is not None:
                    self.assertTrue(is_let(led, led_point(lead, value)))
                    self.assertIs(accepts(("possibly", led, sides), led_point(lead, value)), True)
            for place in CORNERS:
                self.assertEqual(moments_at(led, led_place(lead, place)) is None, moments_at(scene, place) is None)
            for _, value in candidates(scene)[:20]:
                self.assertEqual(states_at(led, led_point(lead, value)), states_at(scene, value))

    def test_something_fits_exactly_if_a_candidate_does(self):
        for scene in some_scenes(137, 60):
            right = any("broken" not in states_at(scene, value) for _, value in candidates(scene))
            self.assertIs(fits(scene), right)
            self.assertEqual(point_without(scene, ()) is not None, right)
            self.assertEqual(certify_fits(scene)[0][0], "fits" if right else "fits not")
            self.assertEqual(possibly(scene, ()) is not None, right)
            if not right:
                self.assertEqual(signs(scene, WINDOW), ("....",) * 4)

    def test_figures_of_any_length(self):
        self.assertEqual(figures(((10 ** 5000 + 7, 1), NIL, NIL), 0), "1" + "0" * 4999 + "7")
        self.assertEqual(figures(((-10 ** 5000 - 7, 1), NIL, NIL), 2), "-1" + "0" * 4999 + "7.00")
        self.assertEqual(figures(((10 ** 1000, 1), NIL, NIL), 0), "1" + "0" * 1000)
        self.assertEqual(figures(((10 ** 1000 - 1, 1), NIL, NIL), 1), "9" * 1000 + ".0")
        self.assertEqual(figures(((10 ** 2000 + 10 ** 999, 1), NIL, NIL), 0), "1" + "0" * 1000 + "1" + "0" * 999)

    def test_what_was_returned_may_be_passed(self):
        """Points with numbers of many figures, papers of many elements."""
        far = scene_of([(name, x * Fraction(10 ** 120, 7), y * Fraction(10 ** 130, 11)) for name, x, y in FOUR],
                       [("a", 10 ** 110, 10 ** 133), ("b", None, Fraction(10 ** 131, 3)), ("c", 5, 10 ** 132), ("d", -10 ** 131, None)],
                       [(1, Fraction(1, 10 ** 90), 10 ** 125), (-3, 7, 10 ** 130)])
        for claim, paper in (certify_fits(far), certify_least(far), certify_likely(far, 0), certify_lot(far, (1,))):
            self.assertIs(accepts(claim, paper), True)
        for _, value in candidates(far):
            self.assertEqual(len(states_at(far, value)), len(rows_of(far)))


if __name__ == "__main__":
    unittest.main()
