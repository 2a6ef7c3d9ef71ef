"""Scenes: what is wrong in a value first, the rows, what they let at points and at places."""

import itertools
import random
import unittest
from decimal import Decimal, localcontext
from fractions import Fraction

from helping import (NIL, ODD, ONE, SCENE, TWO, WRONG_PAIRS, WRONG_POINTS, WRONG_SCENES, as_fraction, changed, decimal_of,
                     heard_decimal, nested, pair_of, pell, point, refusals, scene_of, sign_by_decimals, some_scenes,
                     told_alike)
from latestshake.errors import InvalidPlace, InvalidPoint, InvalidScene
from latestshake.numbers import compared, is_number
from latestshake.scenes import broken_pair, is_let, is_scene, moments_at, rows_of, states_at, within_sides, wrong_in

STILL = point(3, 4, 0)
SCENE_ROW = ("scene", SCENE, InvalidScene, WRONG_SCENES)
POINT_ROW = ("point", STILL, InvalidPoint, WRONG_POINTS)
PLACE_ROW = ("place", (ONE, (-2, 3)), InvalidPlace, WRONG_PAIRS)
LESS = 1 / Fraction(10 ** 50)


def place_of(x, y):
    return pair_of(x), pair_of(y)


class Kinds(unittest.TestCase):
    def right(self, value):
        self.assertIsNone(wrong_in(value))
        self.assertIs(is_scene(value), True)
        self.assertIs(is_scene(value=value), True)

    def wrong(self, value, path):
        self.assertEqual(wrong_in(value), path, value)
        self.assertEqual(wrong_in(value=value), path)
        self.assertIsInstance(wrong_in(value), tuple)
        self.assertIs(is_scene(value), False)
        self.assertIs(is_scene(value=value), False)

    def test_scenes(self):
        stations = tuple(("s" + "abcdefghijkl"[k], (k, 1), (k * k, 7 if k % 7 else 1)) for k in range(12))
        self.right(SCENE)
        self.right(((("a", NIL, NIL),), (), ()))
        self.right((stations, (), ()))
        self.right((stations, tuple((row[0], NIL, None) for row in stations), SCENE[2] * 2 + SCENE[2][:2]))
        self.right((stations, (("sa", NIL, NIL),) * 12, ((ONE, NIL, NIL),) * 8))
        self.right(((("a", (10 ** 399, 3), (-1, 10 ** 399)),), (("a", (-10 ** 399, 1), (10 ** 399, 7)),), ()))
        self.right((SCENE[0][:2], (("b", None, NIL), ("b", NIL, None), ("b", NIL, NIL)), ((NIL, ONE, NIL), (ONE, NIL, NIL))))
        # Of two stations just one number may be alike, in the other's place, too.
        self.right(((("a", ONE, TWO), ("b", ONE, NIL), ("c", TWO, ONE), ("z", NIL, ONE)), (), ()))
        for name in ("z", "abcdefghijkl", "x", "stations", "ats", "heards", "fro", "too", "sides", "u", "upto", "uptoside"):
            self.right((((name, NIL, NIL),), ((name, NIL, None),), ()))

    def test_one_thing_wrong(self):
        for value, path in WRONG_SCENES:
            self.wrong(value, path)

    def test_of_any_kind(self):
        for value in ODD:
            self.assertIs(is_scene(value), False)
            self.assertIsInstance(wrong_in(value), tuple)
        for value in (nested(19), [*SCENE], (*SCENE, ()), SCENE[:2], dict(enumerate(SCENE)), "abc", b"abc", None, True, 3):
            self.wrong(value, ())
        self.wrong("a b".split(), ())
        self.wrong((nested(18), (), ()), (0, 0))
        self.wrong(({0: SCENE[0][0]}, (), ()), (0,))
        self.wrong((list(SCENE[0]), (), ()), (0,))
        self.wrong((SCENE[0], list(SCENE[1]), ()), (1,))
        self.wrong((SCENE[0], None, ()), (1,))
        self.wrong((SCENE[0], (), None), (2,))
        self.wrong((SCENE[0], (), "side"), (2,))

    def test_two_things_wrong(self):
        """The first one in the order in which parts are looked at: by itself, then its parts, then these together."""
        spots = [(path, None) for path in [
            (0,), (1,), (2,), (0, 0), (0, 1), (0, 3), (1, 0), (1, 1), (1, 4), (2, 0), (2, 2), (0, 0, 0), (0, 0, 1), (0, 0, 2),
            (0, 2, 0), (0, 2, 1), (0, 2, 2), (0, 3, 2), (1, 0, 0), (1, 3, 0), (1, 4, 0), (2, 0, 0), (2, 0, 1), (2, 0, 2),
            (2, 2, 2)]]
        spots += [(path, (2, 4)) for path in [(0, 1, 1), (0, 3, 1), (1, 0, 1), (1, 0, 2), (1, 2, 1), (1, 4, 2), (2, 1, 0)]]
        # What is wrong together comes behind all parts of the same station, reading, side.
        joined = [((0, 1), ("a", ONE, ONE)), ((0, 3), ("z", (6, 1), NIL)), ((1, 0), ("a", None, None)),
                  ((1, 3), ("b", TWO, ONE)), ((2, 0), (NIL, NIL, ONE)), ((2, 2), (NIL, NIL, NIL))]
        rows = [(path, part, path) for path, part in spots] + [(path, part, (*path, 9)) for path, part in joined]
        for first, other in itertools.combinations(rows, 2):
            if first[0] == other[0][:len(first[0])] or other[0] == first[0][:len(other[0])]:
                continue
            value = changed(changed(SCENE, first[0], first[1]), other[0], other[1])
            path = min(first, other, key=lambda row: row[2])[0]
            # A reading of a station that is wrong by its name alone is none of the first things wrong.
            self.wrong(value, path)

    def test_parts_come_ahead_of_what_is_asked_of_them_together(self):
        for path, part, told in [
            ((0, 1), ("a", (2, 4), NIL), (0, 1, 1)), ((0, 1), ("a", NIL, (2, 4)), (0, 1, 2)), ((0, 1), ("A", NIL, NIL), (0, 1, 0)),
            ((0, 1), ("a", NIL, NIL), (0, 1)), ((1, 0), ("c", None, None), (1, 0, 0)), ((1, 0), ("c", TWO, ONE), (1, 0, 0)),
            ((1, 0), ("c", TWO, (2, 4)), (1, 0, 0)), ((1, 0), ("b", TWO, (2, 4)), (1, 0, 2)), ((1, 0), ("b", (2, 4), (2, 4)), (1, 0, 1)),
            ((1, 0), ("b", None, (2, 4)), (1, 0, 2)), ((1, 0), ("b", (2, 4), None), (1, 0, 1)), ((2, 0), (NIL, NIL, (2, 4)), (2, 0, 2)),
            ((2, 0), (NIL, (0, 2), NIL), (2, 0, 1)), ((2, 0), (0, (0, 2), NIL), (2, 0, 0)), ((2, 0), (NIL, NIL, None), (2, 0, 2)),
        ]:
            self.wrong(changed(SCENE, path, part), told)

    def test_one_by_one(self):
        a, b = SCENE[0][:2]
        for stations, path in [
            ((a, a, 1), (0, 1)), ((a, ("c", NIL, NIL), ("A", 1, 2)), (0, 1)), ((a, ("a", ONE, ONE), ()), (0, 1)),
            ((a, b, ("c", NIL, NIL), None), (0, 2)), ((a, b, ("b", ONE, ONE), a), (0, 2)), ((1, a, a), (0, 0)),
            ((a, (), a), (0, 1)), ((a, b, ("c", (6, 1), NIL)), (0, 2)), ((a, b, ("c", (6, 1), ONE)), None),
        ]:
            self.assertEqual(wrong_in((stations, (), ())), path)
        for readings, path in [
            ((("a", TWO, ONE), 1), (1, 0)), ((("a", None, None), ("c", NIL, NIL)), (1, 0)), ((("a", NIL, ONE), ("b", ONE, NIL), ()), (1, 1)),
            ((("c", NIL, NIL), ("a", None, None)), (1, 0, 0)), ((("a", NIL, ONE), ("A", NIL, NIL)), (1, 1, 0)),
        ]:
            self.assertEqual(wrong_in(((a, b), readings, (1,))), path)
        for sides, path in [(((NIL, NIL, ONE), 1), (2, 0)), (((NIL, ONE, ONE), 1), (2, 1)), (((NIL, NIL, 1), 1), (2, 0, 2))]:
            self.assertEqual(wrong_in(((a, b), (), sides)), path)
        # A reading of a station's name that is refused there is not asked for.
        self.assertEqual(wrong_in(((a, ("B", ONE, ONE)), (("B", NIL, NIL),), ())), (0, 1, 0))
        # Too many, each of them right or wrong: the tuple by itself comes ahead of its elements.
        self.assertEqual(wrong_in(((1,) * 13, 1, 1)), (0,))
        self.assertEqual(wrong_in(((a, b), (1,) * 13, 1)), (1,))
        self.assertEqual(wrong_in(((a, b), (), (1,) * 9)), (2,))
        self.assertEqual(wrong_in(((1,) * 12, 1, 1)), (0, 0))
        self.assertEqual(wrong_in(((a, b), (1,) * 12, 1)), (1, 0))
        self.assertEqual(wrong_in(((a, b), (), (1,) * 8)), (2, 0))
        self.assertEqual(wrong_in(((), (), ())), (0,))


class Rows(unittest.TestCase):
    def test_in_order(self):
        self.assertEqual(rows_of(SCENE), (
            ("high", 0), ("low", 0), ("high", 1), ("low", 2), ("high", 3), ("low", 3), ("high", 4), ("low", 4),
            ("side", 0), ("side", 1), ("side", 2)))
        self.assertEqual(rows_of(scene=(SCENE[0], (), SCENE[2])), (("side", 0), ("side", 1), ("side", 2)))
        self.assertEqual(rows_of((SCENE[0], (), ())), ())
        self.assertEqual(rows_of((SCENE[0], SCENE[1][1:3], ())), (("high", 0), ("low", 1)))

    def test_refusals(self):
        refusals(self, rows_of, [SCENE_ROW])


class States(unittest.TestCase):
    scene = scene_of([("a", 0, 0), ("b", 6, 0)], [("a", 0, 5), ("b", 1, 5)], [(0, -1, -4)])

    def by_decimals(self, scene, row, value):
        """A row's state by 300 digits."""
        kind, index = row
        with localcontext() as context:
            context.prec = 300
            if kind == "side":
                u, v, limit = [Decimal(top) / Decimal(bottom) for top, bottom in scene[2][index]]
                x, y = [decimal_of((*pair, value[3])) for pair in value[:2]]
                over = u * x + v * y - limit
            else:
                name, low, high = scene[1][index]
                east, north = [(as_fraction(x), as_fraction(y)) for told, x, y in scene[0] if told == name][0]
                heard = heard_decimal(value, east, north)
                over = heard - decimal_of((high, NIL, NIL)) if kind == "high" else decimal_of((low, NIL, NIL)) - heard
            return ("holds", "tight", "broken")[sign_by_decimals(over) + 1]

    def check(self, scene, value, states):
        self.assertEqual(states_at(scene, value), tuple(states))
        self.assertEqual(states_at(point=value, scene=scene), tuple(states))
        self.assertIs(is_let(scene, value), "broken" not in states)
        self.assertIs(is_let(point=value, scene=scene), "broken" not in states)

    def one(self, kind, place, moment, value):
        """The state of the one row of a station, for a high or a low one."""
        row = ("a", None, moment) if kind == "high" else ("a", moment, None)
        scene = scene_of([("a", *place)], [row], [])
        told = states_at(scene, value)
        self.assertEqual(len(told), 1)
        self.assertIs(is_let(scene, value), told != ("broken",))
        return told[0]

    def test_by_hand(self):
        self.check(self.scene, STILL, ("tight", "holds", "tight", "holds", "tight"))
        self.check(self.scene, point(3, 4, -4), ("holds", "holds", "holds", "tight", "tight"))
        self.check(self.scene, point(3, 4, -5), ("holds", "tight", "holds", "broken", "tight"))
        self.check(self.scene, point(3, 4, -6), ("holds", "broken", "holds", "broken", "tight"))
        self.check(self.scene, point(3, 4, 1), ("broken", "holds", "broken", "holds", "tight"))
        self.check(self.scene, point(3, 3, 0), ("holds", "holds", "holds", "holds", "broken"))
        self.check(self.scene, point(0, 5, 1), ("broken", "holds", "broken", "holds", "holds"))
        self.check(self.scene, point(0, 4, (5, -1), 52), ("holds", "holds", "tight", "holds", "tight"))
        self.check((self.scene[0], (), ()), STILL, ())
        self.check((self.scene[0], (), self.scene[2]), point(7, 5, 10 ** 300), ("holds",))

    def test_at_the_station_itself(self):
        for moment, high, low in ((4, "holds", "broken"), (5, "tight", "tight"), (6, "broken", "holds")):
            for value in (point(1, 2, moment), point((0, 1), (1, 1), (moment - 1, 1), 1)):
                self.assertEqual(self.one("high", (1, 2), 5, value), high)
                self.assertEqual(self.one("low", (1, 2), 5, value), low)
        for near, high, low in ((-LESS, "holds", "broken"), (0, "tight", "tight"), (LESS, "broken", "holds")):
            self.assertEqual(self.one("high", (1, 2), 5, point(1, 2, 5 + near)), high)
            self.assertEqual(self.one("low", (1, 2), 5, point(1, 2, 5 + near)), low)
        self.assertEqual(self.one("high", (1, 2), 5, point(1, 2 + LESS, 5)), "broken")
        self.assertEqual(self.one("low", (1, 2), 5, point(1, 2 + LESS, 5)), "holds")

    def test_just_at_and_just_beside(self):
        for near, high, low in ((-LESS, "holds", "broken"), (0, "tight", "tight"), (LESS, "broken", "holds")):
            self.assertEqual(self.one("high", (0, 0), 5, point(3, 4, near)), high)
            self.assertEqual(self.one("low", (0, 0), 5, point(3, 4, near)), low)
            self.assertEqual(self.one("high", (0, 0), 5, point(3, 4 + near, 0)), high)
            self.assertEqual(self.one("low", (0, 0), 5 - near, point(3, 4, 0)), low)
            # 1 less root(2) at (1, 1): heard at 1.
            self.assertEqual(self.one("high", (0, 0), 1, point(1, 1, (1 + near, -1), 2)), high)
            self.assertEqual(self.one("low", (0, 0), 1, point(1, 1, (1 + near, -1), 2)), low)
            side = scene_of([("a", 0, 0)], [], [(1, 1, 7)])
            self.assertEqual(states_at(side, point(3, 4 + near, 9)), (high,))
            side = scene_of([("a", 0, 0)], [], [(pell(30)[1], 0, pell(30)[1] * 3)])
            self.assertEqual(states_at(side, point((1, 2), (0, 1), 9, 1 + near)), (high,))

    def test_later_than_the_moment(self):
        # As far behind it as the distance the squares are alike, but the row is broken, not tight; a low one holds.
        for moment in (5, 6, 9, Fraction(51, 10)):
            self.assertEqual(self.one("high", (0, 0), 0, point(3, 4, moment)), "broken")
            self.assertEqual(self.one("low", (0, 0), 0, point(3, 4, moment)), "holds")

    def test_each_kind_of_row(self):
        scene = scene_of([("a", 0, 0)], [("a", 3, 7)], [(1, 0, 0)])
        for moment, states in ((3, ("broken", "holds")), (2, ("tight", "holds")), (0, ("holds", "holds")), (-2, ("holds", "tight")),
                               (-3, ("holds", "broken"))):
            for x, side in ((-3, "holds"), (3, "broken")):
                self.check(scene, point(x, 4, moment), (*states, side))
            self.check(scene, point(0, 5, moment), (*states, "tight"))
        same = scene_of([("a", 0, 0)], [("a", 5, 5)], [])
        self.check(same, STILL, ("tight", "tight"))
        self.check(same, point(3, 4, 1), ("broken", "holds"))
        self.check(same, point(3, 4, -1), ("holds", "broken"))

    def test_by_decimals(self):
        chance, seen = random.Random(1), set()
        for scene in some_scenes(2, 400):
            for _ in range(4):
                told = [(chance.randint(-4, 4), chance.choice([0, 0, 1, -1, 2])) for _ in range(3)]
                value = point(*told, chance.choice([0, 1, 2, 5, Fraction(9, 4), 13]))
                states = [self.by_decimals(scene, row, value) for row in rows_of(scene)]
                self.check(scene, value, states)
                seen |= {(row[0], state) for row, state in zip(rows_of(scene), states)}
        self.assertEqual(len(seen), 9)

    def test_whatever_quadruple_tells_the_point(self):
        chance = random.Random(3)
        for scene in some_scenes(4, 60):
            value = point(*[(chance.randint(-4, 4), chance.randint(-2, 2)) for _ in range(3)], chance.choice([0, 1, 2, 4, 5]))
            for factor in (2, Fraction(3, 7)):
                self.assertEqual(states_at(scene, told_alike(value, factor)), states_at(scene, value))
        for value in (point((1, 2), (2, 2), 0, 1), point((3, 0), (4, 0), (0, 0), 7), point((3, 8), (4, -3), (0, 1), 0),
                      point((2, Fraction(2, 3)), (5, Fraction(-2, 3)), 0, Fraction(9, 4))):
            self.check(self.scene, value, ("tight", "holds", "tight", "holds", "tight"))

    def test_near_and_great(self):
        for many in (30, 190):
            p, q = pell(many)
            high, low = ("broken", "holds") if 2 * q * q > p * p else ("holds", "broken")
            self.assertEqual(self.one("high", (0, 0), p, point(q, q, 0)), high)
            self.assertEqual(self.one("low", (0, 0), p, point(q, q, 0)), low)
            self.assertEqual(self.one("low", (q, 0), p, point((0, q), (0, 0), (0, 1), 2)), "broken")
            self.assertEqual(self.one("high", (3 * p, 0), 5 * p, point(0, 4 * p, 0)), "tight")

    def test_refusals(self):
        refusals(self, states_at, [SCENE_ROW, POINT_ROW])
        refusals(self, is_let, [SCENE_ROW, POINT_ROW])


class Moments(unittest.TestCase):
    scene = States.scene

    def check(self, scene, place, told):
        self.assertEqual(moments_at(scene, place), told)
        self.assertEqual(moments_at(place=place, scene=scene), told)

    def test_by_hand(self):
        for place, told in [
            (place_of(3, 4), (((-4, 1), NIL, NIL), (NIL, NIL, NIL))),
            (place_of(0, 4), (((-4, 1), NIL, NIL), ((5, 1), (-1, 1), (52, 1)))),
            (place_of(6, 4), (((-3, 1), NIL, NIL), ((5, 1), (-1, 1), (52, 1)))),
            (place_of(3, 5), ((ONE, (-1, 1), (34, 1)), ((5, 1), (-1, 1), (34, 1)))),
            (place_of(20, 4), None), (place_of(0, 0), None), (place_of(3, Fraction(399, 100)), None),
            (place_of(3, Fraction(9, 2)), ((ONE, (-1, 1), (117, 4)), ((5, 1), (-1, 1), (117, 4)))),
            (place_of(6, Fraction(9, 2)), (((-7, 2), NIL, NIL), ((-5, 2), NIL, NIL))),
        ]:
            self.check(self.scene, place, told)

    def test_square_of_a_fraction(self):
        scene = scene_of([("a", Fraction(1, 2), Fraction(1, 3))], [("a", Fraction(1, 7), Fraction(9, 4))], [])
        # (9 / 10, 12 / 10) away: by 3 / 2.
        place = place_of(Fraction(1, 2) + Fraction(9, 10), Fraction(1, 3) - Fraction(12, 10))
        self.check(scene, place, (((-19, 14), NIL, NIL), ((3, 4), NIL, NIL)))
        # (3 / 5, 3 / 5) away: by the root of 18 / 25.
        place = place_of(Fraction(1, 2) + Fraction(3, 5), Fraction(1, 3) + Fraction(3, 5))
        self.check(scene, place, (((1, 7), (-1, 1), (18, 25)), ((9, 4), (-1, 1), (18, 25))))
        self.check(scene, place_of(Fraction(1, 2), Fraction(1, 3)), (((1, 7), NIL, NIL), ((9, 4), NIL, NIL)))

    def test_without_ends(self):
        place = place_of(3, 4)
        for readings, told in [
            ([], (None, None)), ([("a", None, 5)], (None, (NIL, NIL, NIL))), ([("a", 5, None)], ((NIL, NIL, NIL), None)),
            ([("a", None, 5), ("b", None, 3)], (None, ((-2, 1), NIL, NIL))),
            ([("a", 5, None), ("b", 3, None)], ((NIL, NIL, NIL), None)),
            ([("a", 5, None), ("b", None, 5)], ((NIL, NIL, NIL), (NIL, NIL, NIL))),
            ([("a", 5, None), ("b", None, Fraction(499, 100))], None),
            ([("a", 5, 5)], ((NIL, NIL, NIL), (NIL, NIL, NIL))),
            ([("a", None, 5), ("a", 3, 4), ("a", None, 6)], (((-2, 1), NIL, NIL), ((-1, 1), NIL, NIL))),
        ]:
            self.check(scene_of([("a", 0, 0), ("b", 6, 0)], readings, []), place, told)
            self.check(scene_of([("a", 0, 0), ("b", 6, 0)], readings, [(1, 0, 3), (0, 1, 4)]), place, told)
            self.check(scene_of([("a", 0, 0), ("b", 6, 0)], readings, [(1, 0, 3), (0, 1, Fraction(39, 10))]), place, None)

    def test_on_and_beyond_a_side(self):
        scene = scene_of([("a", 0, 0)], [], [(Fraction(1, 3), Fraction(1, 4), 2), (-1, 0, 0)])
        for place, is_within in [((3, 4), True), ((3 + LESS, 4), False), ((3 - LESS, 4), True), ((0, 8), True), ((-LESS, 4), False),
                                 ((0, 8 + LESS), False), ((6, 0), True), ((7, 0), False), ((-1, 99), False), ((0, -10 ** 300), True)]:
            self.check(scene, place_of(*place), (None, None) if is_within else None)
            self.assertIs(within_sides(scene, place_of(*place)), is_within)
            self.assertIs(within_sides(place=place_of(*place), scene=scene), is_within)
        self.assertIs(within_sides((scene[0], (), ()), place_of(10 ** 300, 1)), True)
        # Readings that let no moment there leave the place within the sides.
        wrong = scene_of([("a", 0, 0), ("b", 6, 0)], [("a", 50, None), ("b", None, 5)], [(1, 0, 3)])
        self.assertIs(within_sides(wrong, place_of(3, 4)), True)
        self.assertIsNone(moments_at(wrong, place_of(3, 4)))

    def test_ends_alike(self):
        # Two stations equally far away, and a third one farther by what it hears later: one and the same end.
        scene = scene_of([("a", -1, 0), ("b", 1, 0), ("c", 0, 3)], [("c", 0, 9), ("a", 1, 9), ("b", 1, 2), ("a", 1, 2)], [])
        self.check(scene, place_of(0, 1), ((ONE, (-1, 1), TWO), (TWO, (-1, 1), TWO)))
        scene = scene_of([("a", 3, 4), ("b", 0, 12)], [("a", 5, 6), ("b", 12, 13), ("a", 1, 6)], [])
        self.check(scene, place_of(0, 0), ((NIL, NIL, NIL), (ONE, NIL, NIL)))
        scene = scene_of([("a", 0, 0), ("b", 9, 0)], [("a", 5, 5), ("b", 10, 10)], [])
        self.check(scene, place_of(-3, 4), None)
        # root(8) away, and root(2).
        scene = scene_of([("a", 0, 0), ("b", 3, 3)], [("a", None, 4), ("b", None, 1)], [])
        self.check(scene, place_of(2, 2), (None, (ONE, (-1, 1), TWO)))
        scene = scene_of([("a", 0, 0), ("b", 3, 3)], [("b", None, 4), ("a", 2, 4)], [])
        self.check(scene, place_of(2, 2), ((TWO, (-1, 1), (8, 1)), ((4, 1), (-1, 1), (8, 1))))

    def ends_by_decimals(self, scene, place):
        """The greatest first and the least last moment by 300 digits."""
        x, y = [as_fraction(part) for part in place]
        stations = {name: (as_fraction(east), as_fraction(north)) for name, east, north in scene[0]}
        lows, highs = [], []
        for name, low, high in scene[1]:
            square = (stations[name][0] - x) ** 2 + (stations[name][1] - y) ** 2
            for end, row in ((low, lows), (high, highs)):
                if end is not None:
                    row.append(decimal_of((end, (-1, 1), pair_of(square))))
        return max(lows, default=None), min(highs, default=None)

    def test_by_decimals(self):
        chance, seen = random.Random(5), set()
        for scene in some_scenes(6, 500):
            for _ in range(3):
                place = place_of(Fraction(chance.randint(-8, 8), 2), Fraction(chance.randint(-8, 8), chance.choice([1, 2, 3])))
                told = moments_at(scene, place)
                first, last = self.ends_by_decimals(scene, place)
                beyond = any(as_fraction(u) * as_fraction(place[0]) + as_fraction(v) * as_fraction(place[1]) > as_fraction(limit)
                             for u, v, limit in scene[2])
                self.assertIs(within_sides(scene, place), not beyond)
                is_broken = first is not None and last is not None and sign_by_decimals(first - last) > 0
                self.assertEqual(broken_pair(scene, place) is not None, is_broken)
                self.assertEqual(told is None, beyond or is_broken)
                seen.add((beyond, is_broken))
                if told is not None:
                    for end, value in ((told[0], first), (told[1], last)):
                        self.assertEqual(end is None, value is None)
                        if end is not None:
                            self.assertTrue(is_number(end))
                            self.assertEqual(sign_by_decimals(decimal_of(end) - value), 0)
                            self.assertIn(end[1:], [(NIL, NIL), ((-1, 1), end[2])])
        self.assertEqual(len(seen), 4)

    def test_are_just_the_moments_let(self):
        for scene in some_scenes(7, 150):
            for x, y in ((0, 0), (1, 2), (-3, 1), (Fraction(1, 2), 3)):
                told = moments_at(scene, place_of(x, y))
                if told is None:
                    for moment in range(-12, 13):
                        self.assertFalse(is_let(scene, point(x, y, Fraction(moment, 2))))
                    continue
                for end, way in zip(told, (-1, 1)):
                    if end is not None:
                        part, factor, root = [as_fraction(row) for row in end]
                        self.assertTrue(is_let(scene, point(x, y, (part, factor), root)))
                        self.assertFalse(is_let(scene, point(x, y, (part + way * LESS, factor), root)))
                        is_one = None not in told and compared(told[0], told[1]) == 0
                        self.assertEqual(is_let(scene, point(x, y, (part - way * LESS, factor), root)), not is_one)
                    else:
                        self.assertTrue(is_let(scene, point(x, y, way * 10 ** 60)))

    def test_great_ones(self):
        p, q = pell(190)
        scene = scene_of([("a", 0, 0), ("b", 0, 3 * p)], [("a", 0, None), ("b", None, p)], [])
        self.check(scene, place_of(4 * p, 0), ((pair_of(-4 * p), NIL, NIL), (pair_of(-4 * p), NIL, NIL)))
        self.check(scene, place_of(4 * p, -LESS), None)
        self.assertIsNotNone(moments_at(scene, place_of(4 * p, LESS)))
        sign = 1 if 2 * q * q > p * p else -1
        told = moments_at(scene_of([("a", 0, 0), ("b", q, q + p)], [("a", 0, None), ("b", None, 0)], []), place_of(q, q))
        self.assertEqual(told is None, sign < 0)

    def test_refusals(self):
        refusals(self, moments_at, [SCENE_ROW, PLACE_ROW])
        refusals(self, within_sides, [SCENE_ROW, PLACE_ROW])


class Pairs(unittest.TestCase):
    def check(self, scene, place, told):
        self.assertEqual(broken_pair(scene, place), told)
        self.assertEqual(broken_pair(place=place, scene=scene), told)

    def test_by_hand(self):
        scene = Moments.scene
        self.check(scene, place_of(20, 4), (("low", 1), ("high", 0)))
        # Sides are left aside.
        self.check(scene, place_of(0, 0), (("low", 0), ("high", 1)))
        self.check(scene, place_of(3, 0), None)
        self.check(scene, place_of(3, 4), None)
        self.check((scene[0], (), scene[2]), place_of(3, 0), None)

    def test_first_by_low_rows_then_by_high_ones(self):
        stations = [("a", 0, 0), ("b", 6, 0)]
        for readings, told in [
            # At (3, 4) both are 5 away: a low row is broken beside each lesser HIGH.
            ([("a", 4, 9), ("b", 2, 3), ("a", 8, 9), ("b", None, 1), ("a", 9, None)], (("low", 0), ("high", 1))),
            ([("a", 1, 9), ("b", 2, 3), ("a", 8, 9), ("b", None, 1), ("a", 9, None)], (("low", 1), ("high", 3))),
            ([("a", 1, 9), ("b", 1, 3), ("a", 8, 9), ("b", None, 1), ("a", 9, None)], (("low", 2), ("high", 1))),
            ([("a", None, 9), ("b", 1, 3), ("a", None, 8), ("b", None, 1), ("a", 9, None)], (("low", 4), ("high", 1))),
            ([("a", None, 9), ("b", 1, 3), ("a", 1, 1), ("b", None, 1), ("a", 1, None)], None),
            ([("a", 9, None), ("b", 1, None)], None), ([("a", None, 9), ("b", None, 1)], None),
            ([("a", 9, None), ("b", None, 1)], (("low", 0), ("high", 1))), ([("a", None, 1), ("b", 9, None)], (("low", 1), ("high", 0))),
            ([("a", 9, None), ("b", None, 9)], None), ([("a", 9 + LESS, None), ("b", None, 9)], (("low", 0), ("high", 1))),
        ]:
            self.check(scene_of(stations, readings, []), place_of(3, 4), told)
            self.check(scene_of(stations, readings, [(1, 0, 0)]), place_of(3, 4), told)

    def test_by_decimals(self):
        for scene in some_scenes(8, 400):
            place = place_of(1, Fraction(5, 2))
            x, y = 1, Fraction(5, 2)
            stations = {name: (as_fraction(east), as_fraction(north)) for name, east, north in scene[0]}
            ends = []
            for kind, index in rows_of(scene):
                if kind != "side":
                    name, low, high = scene[1][index]
                    square = (stations[name][0] - x) ** 2 + (stations[name][1] - y) ** 2
                    ends.append(((kind, index), decimal_of((low if kind == "low" else high, (-1, 1), pair_of(square)))))
            pairs = [(low, high) for low, first in ends for high, last in ends
                     if low[0] == "low" and high[0] == "high" and sign_by_decimals(first - last) > 0]
            self.check(scene, place, pairs[0] if pairs else None)

    def test_refusals(self):
        refusals(self, broken_pair, [SCENE_ROW, PLACE_ROW])


if __name__ == "__main__":
    unittest.main()
