"""Leads: scenes turned, mirrored, stretched, shifted and later, and what stays as it was."""

import random
import unittest
from fractions import Fraction

from helping import (NIL, ONE, QUARTER, SCENE, TWO, WRONG_FRACTIONS, WRONG_LEADS, WRONG_PAIRS, WRONG_SCENES, as_fraction,
                     led_point, pair_of, point, refusals, scene_of, some_leads, some_scenes)
from latestshake.errors import InvalidFraction, InvalidLead, InvalidPlace, InvalidScene
from latestshake.leads import back, behind, is_lead, led_moment, led_place, led_scene
from latestshake.scenes import is_scene, moments_at, rows_of, states_at, within_sides

STAY = (ONE, NIL, False, (NIL, NIL), ONE, NIL)
LEAD_ROW = ("lead", QUARTER, InvalidLead, WRONG_LEADS)
LATER_ROW = ("later", STAY, InvalidLead, WRONG_LEADS)
PLACE_ROW = ("place", (ONE, (-2, 3)), InvalidPlace, WRONG_PAIRS)
MOMENT_ROW = ("moment", (5, 7), InvalidFraction, WRONG_FRACTIONS)
SCENE_ROW = ("scene", SCENE, InvalidScene, WRONG_SCENES)
LEADS = list(some_leads())


def place_of(x, y):
    return pair_of(x), pair_of(y)


def step_by_step(lead, place):
    """Mirrored, turned, stretched, shifted, one after the other."""
    a, b, by = [as_fraction(lead[index]) for index in (0, 1, 4)]
    x, y = [as_fraction(part) for part in place]
    x, y = (x, -y) if lead[2] else (x, y)
    x, y = a * x - b * y, b * x + a * y
    x, y = by * x, by * y
    return place_of(x + as_fraction(lead[3][0]), y + as_fraction(lead[3][1]))


class Kinds(unittest.TestCase):
    def test_leads(self):
        for value in [STAY, QUARTER, *LEADS, ((-1, 1), NIL, True, (NIL, ONE), (1, 10 ** 399), (-10 ** 399, 1)),
                      ((3, 5), (-4, 5), True, ((1, 2), (-2, 3)), (7, 2), (-1, 9)), (NIL, (-1, 1), False, (NIL, NIL), ONE, NIL)]:
            self.assertIs(is_lead(value), True, value)
            self.assertIs(is_lead(value=value), True)

    def test_no_leads(self):
        for value in WRONG_LEADS:
            self.assertIs(is_lead(value), False, value)
            self.assertIs(is_lead(value=value), False)

    def test_a_and_b_just_on_the_circle(self):
        for top in range(-13, 14):
            for other in range(-13, 14):
                for bottom in (5, 13):
                    a, b = Fraction(top, bottom), Fraction(other, bottom)
                    self.assertIs(is_lead((pair_of(a), pair_of(b), *QUARTER[2:])), a * a + b * b == 1)


class Places(unittest.TestCase):
    def test_by_hand(self):
        for lead, place, told in [
            (STAY, (3, 4), (3, 4)), (QUARTER, (3, 4), (-7, 6)), (QUARTER, (0, 0), (1, 0)),
            ((ONE, NIL, True, (NIL, NIL), ONE, NIL), (3, 4), (3, -4)), (((-1, 1), NIL, False, (NIL, NIL), ONE, NIL), (3, 4), (-3, -4)),
            (((-1, 1), NIL, True, (NIL, NIL), ONE, NIL), (3, 4), (-3, 4)), ((NIL, ONE, True, (NIL, NIL), ONE, NIL), (3, 4), (4, 3)),
            ((ONE, NIL, False, ((1, 2), (-1, 3)), (1, 3), NIL), (3, 4), (Fraction(3, 2), 1)),
            (((3, 5), (4, 5), False, (NIL, NIL), (5, 1), ONE), (3, 4), (-7, 24)),
            (((3, 5), (4, 5), True, (NIL, NIL), (5, 1), ONE), (3, 4), (25, 0)),
        ]:
            self.assertEqual(led_place(lead, place_of(*place)), place_of(*told))
            self.assertEqual(led_place(place=place_of(*place), lead=lead), place_of(*told))

    def test_step_by_step(self):
        for lead in LEADS:
            for x, y in [(0, 0), (1, 0), (0, 1), (Fraction(-7, 3), Fraction(5, 2)), (10 ** 300, Fraction(1, 10 ** 300))]:
                self.assertEqual(led_place(lead, place_of(x, y)), step_by_step(lead, place_of(x, y)))

    def test_moments(self):
        self.assertEqual(led_moment(QUARTER, (-4, 1)), (-5, 1))
        self.assertEqual(led_moment(QUARTER, NIL), (3, 1))
        self.assertEqual(led_moment(STAY, (-4, 3)), (-4, 3))
        self.assertEqual(led_moment((*STAY[:4], (2, 3), (-1, 6)), (1, 4)), NIL)
        for lead in LEADS:
            for moment in (0, 1, Fraction(-7, 3), 10 ** 300):
                told = as_fraction(lead[4]) * moment + as_fraction(lead[5])
                self.assertEqual(led_moment(lead, pair_of(moment)), pair_of(told))
                self.assertEqual(led_moment(moment=pair_of(moment), lead=lead), pair_of(told))

    def test_refusals(self):
        refusals(self, led_place, [LEAD_ROW, PLACE_ROW])
        refusals(self, led_moment, [LEAD_ROW, MOMENT_ROW])


class Scenes(unittest.TestCase):
    def test_by_hand(self):
        scene = scene_of([("a", 0, 0), ("b", 6, 0)], [("a", 0, 5), ("b", None, 5), ("b", 1, None)], [(0, -1, -4), (1, 2, 3)])
        self.assertEqual(led_scene(QUARTER, scene), scene_of(
            [("a", 1, 0), ("b", 1, 12)], [("a", 3, 13), ("b", None, 13), ("b", 5, None)], [(1, 0, -7), (-2, 1, 4)]))
        mirror = (ONE, NIL, True, (NIL, ONE), (1, 2), (-1, 1))
        self.assertEqual(led_scene(scene=scene, lead=mirror), scene_of(
            [("a", 0, 1), ("b", 3, 1)], [("a", -1, Fraction(3, 2)), ("b", None, Fraction(3, 2)), ("b", Fraction(-1, 2), None)],
            [(0, 1, -1), (1, -2, Fraction(-1, 2))]))
        slant = ((3, 5), (4, 5), True, (ONE, TWO), (5, 1), NIL)
        self.assertEqual(led_scene(slant, (scene[0], (), scene[2]))[2], scene_of(
            [], [], [(Fraction(-4, 5), Fraction(3, 5), Fraction(-98, 5)), (Fraction(11, 5), Fraction(-2, 5), Fraction(82, 5))])[2])

    def test_stay(self):
        for scene in [SCENE, *some_scenes(1, 40)]:
            self.assertEqual(led_scene(STAY, scene), scene)

    def test_names_and_nones_stay(self):
        for lead in LEADS:
            led = led_scene(lead, SCENE)
            self.assertTrue(is_scene(led))
            self.assertEqual([row[0] for row in led[0] + led[1]], [row[0] for row in SCENE[0] + SCENE[1]])
            self.assertEqual(rows_of(led), rows_of(SCENE))

    def test_rows_are_as_they_were(self):
        chance, seen = random.Random(2), set()
        scenes = list(some_scenes(3, 120))
        for index, scene in enumerate(scenes):
            for lead in chance.sample(LEADS, 6):
                led = led_scene(lead, scene)
                for _ in range(4):
                    value = point(*[(chance.randint(-4, 4), chance.choice([0, 0, 1, -1])) for _ in range(3)], chance.choice([0, 1, 2, 5]))
                    states = states_at(scene, value)
                    self.assertEqual(states_at(led, led_point(lead, value)), states)
                    seen |= {(row[0], state) for row, state in zip(rows_of(scene), states)}
                place = place_of(chance.randint(-4, 4), Fraction(chance.randint(-8, 8), 2))
                self.assertEqual(within_sides(led, led_place(lead, place)), within_sides(scene, place))
                told, after = moments_at(scene, place), moments_at(led, led_place(lead, place))
                self.assertEqual(told is None, after is None)
                if told is not None:
                    self.assertEqual([end is None for end in told], [end is None for end in after])
        self.assertEqual(len(seen), 9)

    def test_refusals(self):
        refusals(self, led_scene, [LEAD_ROW, SCENE_ROW])


class Behind(unittest.TestCase):
    def test_by_hand(self):
        mirror = (ONE, NIL, True, (NIL, ONE), (1, 2), (-1, 1))
        self.assertEqual(behind(QUARTER, mirror), (NIL, (-1, 1), True, ((1, 2), ONE), ONE, (1, 2)))
        self.assertEqual(behind(mirror, QUARTER), (NIL, ONE, True, ((-1, 1), NIL), ONE, ONE))
        self.assertEqual(back(QUARTER), (NIL, (-1, 1), False, (NIL, (1, 2)), (1, 2), (-3, 2)))
        self.assertEqual(back(mirror), (ONE, NIL, True, (NIL, TWO), TWO, TWO))
        self.assertEqual(back(STAY), STAY)

    def test_first_the_one_then_the_later_one(self):
        scene = next(scene for scene in some_scenes(4, 99) if scene[1] and scene[2])
        for lead in LEADS:
            for later in LEADS[::3]:
                both = behind(lead, later)
                self.assertTrue(is_lead(both))
                self.assertEqual(behind(later=later, lead=lead), both)
                for x, y in ((0, 0), (1, 0), (Fraction(-7, 3), Fraction(5, 2))):
                    self.assertEqual(led_place(both, place_of(x, y)), led_place(later, led_place(lead, place_of(x, y))))
                for moment in (NIL, ONE, (-7, 3)):
                    self.assertEqual(led_moment(both, moment), led_moment(later, led_moment(lead, moment)))
                self.assertEqual(led_scene(both, scene), led_scene(later, led_scene(lead, scene)))

    def test_back_undoes(self):
        for lead in LEADS:
            undo = back(lead)
            self.assertTrue(is_lead(undo))
            self.assertEqual(back(lead=lead), undo)
            self.assertEqual(behind(lead, undo), STAY)
            self.assertEqual(behind(undo, lead), STAY)
            self.assertEqual(back(undo), lead)
            for scene in [SCENE, *some_scenes(5, 5)]:
                self.assertEqual(led_scene(undo, led_scene(lead, scene)), scene)
                self.assertEqual(led_scene(lead, led_scene(undo, scene)), scene)

    def test_one_behind_two_or_two_behind_one(self):
        for index in range(0, len(LEADS) - 2, 5):
            one, two, three = LEADS[index:index + 3]
            self.assertEqual(behind(behind(one, two), three), behind(one, behind(two, three)))

    def test_great_ones(self):
        great = ((3, 5), (-4, 5), True, ((10 ** 399, 3), (-1, 10 ** 399)), (10 ** 399, 7), (-10 ** 399, 11))
        self.assertEqual(behind(great, back(great)), STAY)
        led = led_scene(great, led_scene(great, led_scene(great, SCENE)))
        self.assertTrue(is_scene(led))
        self.assertEqual(led_scene(back(behind(great, behind(great, great))), led), SCENE)

    def test_refusals(self):
        refusals(self, behind, [LEAD_ROW, LATER_ROW])
        refusals(self, back, [LEAD_ROW])


if __name__ == "__main__":
    unittest.main()
