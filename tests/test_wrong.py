"""Readings that must be wrong: beside a second way that tries all lots by fits, at most so many wrong, readings put in."""

import itertools
import random
import unittest
from fractions import Fraction

from helping import (FOUR, ODD, SCENE, WRONG_LOTS, WRONG_POINTS, WRONG_SCENES, WRONG_WRONG, point, refusals, scene_of, sides_of,
                     some_leads, some_scenes, told_alike)
from latestshake.candidates import candidates, fits, latest
from latestshake.errors import InvalidCount, InvalidLot, InvalidPoint, InvalidScene
from latestshake.leads import led_scene
from latestshake.numbers import compared
from latestshake.points import is_point, number_of
from latestshake.scenes import is_let, rows_of, states_at
from latestshake.wrong import (broken_by, cleared, conflicts, fewest, is_enough, latest_likely, least_lots, least_stations,
                               likely_point, point_without, suspects)

SHUT = sides_of((1, 0, 0), (-1, 0, -1))
# What some scene or other of these brings: no reading, one, several of one station, no HIGH, no LOW, sides that let nothing.
SPECIAL = [scene_of(*told) for told in [
    (FOUR, [], []), (FOUR, [], [(1, 0, 3)]), (FOUR, [], [(1, 0, 0), (-1, 0, -1)]), (FOUR, [("b", 3, 5)], []),
    (FOUR, [("b", None, 5)], [(1, 0, 0)]), (FOUR, [("b", 5, None)], [(1, 0, 0), (-1, 0, -1)]),
    (FOUR, [("a", 0, 1), ("a", 2, 3)], []), (FOUR, [("a", 0, 2), ("a", 2, 3)], []), (FOUR, [("a", 0, 1), ("b", 8, 9)], []),
    (FOUR, [("a", 0, 1), ("b", 7, 9)], []), (FOUR, [("a", 0, 1), ("a", 2, 3), ("a", 4, 5), ("a", 0, 9)], []),
    (FOUR, [("a", 0, 1), ("a", 2, 3), ("b", 0, 1), ("b", 2, 3)], []), (FOUR, [("a", 0, 0), ("a", 1, 1), ("b", 11, 11), ("c", 0, 0)], []),
    (FOUR, [("a", 1, None), ("b", 99, None), ("c", -5, None)], []), (FOUR, [("a", 1, None), ("b", 99, None)], [(1, 0, 0), (-1, 0, -1)]),
    (FOUR, [("a", None, 1), ("b", None, -99), ("c", None, 5)], [(0, 1, -9)]), (FOUR, [("a", None, 0), ("b", 6, None)], []),
    (FOUR, [("a", None, 0), ("b", 7, None), ("a", None, 1), ("b", 8, None)], []),
    (FOUR, [("a", 5, 5), ("b", 5, 5), ("c", 5, 5), ("d", 9, 9)], [(1, 0, 3)]),
    (FOUR, [("a", 5, 5), ("b", 5, 5), ("c", 5, 5), ("d", 9, 9)], [(1, 0, 2)]),
    (FOUR, [("a", 0, 0), ("a", 1, 1), ("a", 2, 2), ("a", 3, 3), ("a", 4, 4), ("a", 5, 5)], []),
    (FOUR, [(name, low, low) for low in (0, 20) for name in "abcd"], []),
]]


def all_lots(many):
    return [lot for size in range(many + 1) for lot in itertools.combinations(range(many), size)]


def alone(scene, lot):
    return scene[0], tuple(scene[1][index] for index in lot), scene[2]


def without(scene, lot):
    return alone(scene, [index for index in range(len(scene[1])) if index not in lot])


def least(lots):
    lots = list(lots)
    return tuple(sorted(lot for lot in lots if not any(set(other) < set(lot) for other in lots)))


def lets_a_place(scene):
    return fits((scene[0], (), scene[2]))


def some_wrong(seed, many, most=5):
    yield from SPECIAL
    for scene in some_scenes(seed, many, most):
        yield scene
        # Some readings moved, so that more of them are wrong.
        chance = random.Random(len(scene[1]) + seed)
        moved = [(name, *[None if end is None else Fraction(*end) + by for end in ends]) for name, *ends in scene[1]
                 for by in [chance.choice([0, 3, -4])]]
        yield (scene[0], scene_of([], moved, [])[1], scene[2])


class Lots(unittest.TestCase):
    def test_broken_by(self):
        scene = scene_of(FOUR, [("a", 5, 5), ("b", None, 4), ("c", 6, None), ("d", 4, 9), ("a", 0, 6)], [(1, 0, 0), (0, 1, 9)])
        self.assertEqual(broken_by(scene, point(3, 4, 0)), (1, 2))
        self.assertEqual(broken_by(scene=scene, point=point(3, 4, 1)), (0, 1))
        self.assertEqual(broken_by(scene, point(3, 4, -6)), (0, 2, 3, 4))
        chance = random.Random(61)
        for scene in some_wrong(62, 60):
            for _, value in candidates(scene)[:40]:
                states = dict(zip(rows_of(scene), states_at(scene, value)))
                told = tuple(index for index in range(len(scene[1]))
                             if "broken" in (states.get(("high", index)), states.get(("low", index))))
                self.assertEqual(broken_by(scene, value), told)
                self.assertEqual(broken_by(scene, told_alike(value, chance.choice([2, 5, Fraction(1, 3)]))), told)
        self.assertEqual(broken_by(SPECIAL[2], point(0, 0, 0)), ())

    def test_all_lots(self):
        """Each lot beside fits of the scene without it."""
        for scene in some_wrong(63, 25, 4):
            for lot in all_lots(len(scene[1])):
                right = fits(without(scene, lot))
                self.assertIs(is_enough(scene, lot), right)
                self.assertIs(is_enough(lot=lot, scene=scene), right)
                value = point_without(scene, lot)
                self.assertEqual(point_without(lot=lot, scene=scene), value)
                self.assertEqual(value is not None, right)
                if right:
                    self.assertTrue(is_point(value))
                    self.assertTrue(is_let(without(scene, lot), value))
                    self.assertLessEqual(set(broken_by(scene, value)), set(lot))

    def test_beside_all_lots(self):
        seen = {}
        for scene in some_wrong(64, 70):
            many = len(scene[1])
            enough = [lot for lot in all_lots(many) if fits(without(scene, lot))]
            lots = least(enough)
            self.assertEqual(least_lots(scene), lots)
            self.assertEqual(least_lots(scene=scene), lots)
            size = min([len(lot) for lot in lots], default=0)
            few = tuple(lot for lot in lots if len(lot) == size)
            self.assertEqual(fewest(scene), few)
            self.assertEqual(fewest(scene=scene), few)
            every = tuple(index for index in range(many) if lots and all(index in lot for lot in few))
            self.assertEqual(suspects(scene), every)
            self.assertEqual(suspects(scene=scene), every)
            none = tuple(index for index in range(many) if lots and not any(index in lot for lot in lots))
            self.assertEqual(cleared(scene), none)
            self.assertEqual(cleared(scene=scene), none)
            clash = least([lot for lot in all_lots(many) if not fits(alone(scene, lot))])
            self.assertEqual(conflicts(scene), clash)
            self.assertEqual(conflicts(scene=scene), clash)
            self.told_of(scene, lots, clash)
            seen[len(lots)] = seen.get(len(lots), 0) + 1
        self.assertGreater(min(seen[0], seen[1], seen[2], seen[3]), 3)

    def told_of(self, scene, lots, clash):
        """What the document tells of the lots."""
        many, place = len(scene[1]), lets_a_place(scene)
        self.assertEqual(len(lots) > 0, place)
        self.assertEqual(lots == ((),), fits(scene))
        if fits(scene):
            self.assertEqual((clash, suspects(scene), cleared(scene)), ((), (), tuple(range(many))))
        if not place:
            self.assertEqual((lots, clash, suspects(scene), cleared(scene), fewest(scene)), ((), ((),), (), (), ()))
            return
        self.assertTrue(many == 0 or tuple(range(many)) not in lots)
        for index in range(many):
            self.assertFalse(all(index in lot for lot in lots))
        # Conflicts are the least lots that meet all least lots, and back.
        subsets = all_lots(many)
        self.assertEqual(clash, least([lot for lot in subsets if all(set(lot) & set(other) for other in lots)]))
        self.assertEqual(lots, least([lot for lot in subsets if all(set(lot) & set(other) for other in clash)]))
        for lot in clash:
            self.assertTrue(any(scene[1][index][1] is not None for index in lot))
            self.assertTrue(any(scene[1][index][2] is not None for index in lot))

    def test_by_hand(self):
        self.assertEqual(least_lots(SPECIAL[0]), ((),))
        self.assertEqual(least_lots(SPECIAL[1]), ((),))
        self.assertEqual((least_lots(SPECIAL[2]), conflicts(SPECIAL[2])), ((), ((),)))
        # Two readings of one station with nothing in common; two stations 6 apart.
        for scene in (SPECIAL[6], SPECIAL[8]):
            self.assertEqual((least_lots(scene), conflicts(scene), fewest(scene)), (((0,), (1,)), ((0, 1),), ((0,), (1,))))
            self.assertEqual((suspects(scene), cleared(scene)), ((), ()))
        for scene in (SPECIAL[7], SPECIAL[9]):
            self.assertEqual((least_lots(scene), conflicts(scene), cleared(scene)), (((),), (), (0, 1)))
        self.assertEqual(least_lots(SPECIAL[10]), ((0, 1), (0, 2), (1, 2)))
        self.assertEqual((conflicts(SPECIAL[10]), cleared(SPECIAL[10])), (((0, 1), (0, 2), (1, 2)), (3,)))
        self.assertEqual(least_lots(SPECIAL[11]), ((0, 2), (0, 3), (1, 2), (1, 3)))
        # No HIGH, no LOW: nothing must be wrong, if the sides let a place.
        self.assertEqual([least_lots(scene) for scene in SPECIAL[13:16]], [((),), (), ((),)])
        self.assertEqual([conflicts(scene) for scene in SPECIAL[13:16]], [(), ((),), ()])
        self.assertEqual(conflicts(SPECIAL[17]), ((0, 1), (0, 3), (2, 3)))
        # At (3, 4) the last one is wrong; with x up to 2 one of the first three is, too.
        self.assertEqual(least_lots(SPECIAL[18]), ((0,), (1,), (2,), (3,)))
        self.assertEqual(suspects(scene_of(FOUR, [("a", 0, 1), ("a", 5, 6), ("a", 5, 7), ("a", 5, 9)], [])), (0,))
        self.assertEqual(fewest(scene_of(FOUR, [("a", 0, 1), ("a", 5, 6), ("a", 5, 7), ("a", 5, 9)], [])), ((0,),))
        self.assertEqual(least_lots(scene_of(FOUR, [("a", 0, 1), ("a", 5, 6), ("a", 5, 7), ("a", 5, 9)], [])), ((0,), (1, 2, 3)))
        self.assertEqual(least_lots(SPECIAL[20]), least(itertools.combinations(range(6), 5)))

    def test_all_readings_are_never_a_least_lot(self):
        for scene in some_wrong(65, 60):
            if scene[1]:
                whole = tuple(range(len(scene[1])))
                self.assertNotIn(whole, least_lots(scene))
                self.assertIs(is_enough(scene, whole), lets_a_place(scene))
                for index in whole:
                    self.assertIs(is_enough(scene, whole[:index] + whole[index + 1:]), lets_a_place(scene))

    def test_lots_that_no_candidate_breaks(self):
        """More than a least lot is enough, too, though no candidate breaks just it."""
        scene = SPECIAL[6]
        self.assertNotIn((0, 1), {broken_by(scene, value) for _, value in candidates(scene)})
        self.assertIs(is_enough(scene, (0, 1)), True)
        for scene in some_wrong(66, 30, 4):
            broken = {broken_by(scene, value) for _, value in candidates(scene)}
            for lot in all_lots(len(scene[1])):
                if lot not in broken:
                    self.assertIs(is_enough(scene, lot), any(set(other) <= set(lot) for other in least_lots(scene)))

    def test_many_readings(self):
        """Twelve of one station, all apart: the least lots leave one, conflicts are the pairs."""
        scene = scene_of(FOUR, [("a", low, low) for low in range(12)], [])
        self.assertEqual(least_lots(scene), least(itertools.combinations(range(12), 11)))
        self.assertEqual(conflicts(scene), tuple(itertools.combinations(range(12), 2)))
        self.assertEqual(least_stations(scene), ((0,),))
        chance = random.Random(67)
        stations = [(name, chance.randint(-20, 20), chance.randint(-20, 20)) for name in "abcdefghijkl"]
        exact = scene_of(stations, [(name, low, low) for name, _, _ in stations for low in [chance.randint(-9, 9)]], [])
        lots = least_lots(exact)
        self.assertGreater(len(lots), 20)
        self.assertEqual(lots, tuple(sorted(lots)))
        for lot in chance.sample(lots, 8):
            self.assertIs(is_enough(exact, lot), True)
            for index in lot:
                self.assertIs(is_enough(exact, tuple(other for other in lot if other != index)), False)
        for lot in chance.sample(conflicts(exact), 8):
            self.assertIs(fits(alone(exact, lot)), False)
            for index in lot:
                self.assertIs(fits(alone(exact, [other for other in lot if other != index])), True)

    def test_stations(self):
        seen = set()
        for scene in some_wrong(68, 90):
            names = [row[0] for row in scene[0]]
            owners = [names.index(name) for name, _, _ in scene[1]]
            enough = [lot for lot in all_lots(len(names))
                      if fits(without(scene, [index for index, owner in enumerate(owners) if owner in lot]))]
            self.assertEqual(least_stations(scene), least(enough))
            self.assertEqual(least_stations(scene=scene), least(enough))
            seen.add(len(least(enough)))
        self.assertGreater(len(seen), 3)
        # Two readings of one station that clash: the station alone may be wrong, all of its readings.
        self.assertEqual(least_stations(SPECIAL[10]), ((0,),))
        self.assertEqual(least_stations(SPECIAL[11]), ((0, 1),))
        self.assertEqual(least_stations(SPECIAL[12]), ((0, 1), (0, 2)))
        self.assertEqual(least_stations(SPECIAL[2]), ())
        self.assertEqual(least_stations(SPECIAL[0]), ((),))
        # The stations in the order of the scene, not of the readings or the alphabet.
        turned = scene_of([("z", 0, 0), ("b", 6, 0), ("a", 0, 8)], [("a", 0, 0), ("z", 9, 9), ("b", 0, 0)], [])
        self.assertEqual(least_stations(turned), ((0,), (1, 2)))

    def test_led(self):
        chance, leads = random.Random(69), list(some_leads())
        for scene in some_wrong(70, 50):
            led = led_scene(chance.choice(leads), scene)
            for function in (least_lots, fewest, suspects, cleared, conflicts, least_stations):
                self.assertEqual(function(led), function(scene))
            for many in (0, 1, 3):
                self.assertEqual(likely_point(led, many) is None, likely_point(scene, many) is None)
                self.assertEqual(latest_likely(led, many) is None, latest_likely(scene, many) is None)


class AtMost(unittest.TestCase):
    def test_likely(self):
        seen = {True: 0, False: 0}
        for scene in some_wrong(71, 70):
            lots = least_lots(scene)
            for many in range(13):
                value = likely_point(scene, many)
                self.assertEqual(likely_point(many=many, scene=scene), value)
                right = any(len(lot) <= many for lot in lots)
                seen[right] += 1
                self.assertEqual(value is not None, right)
                if right:
                    self.assertTrue(is_point(value))
                    self.assertLessEqual(len(broken_by(scene, value)), many)
                    self.assertTrue(is_let((scene[0], (), scene[2]), value))
        self.assertGreater(min(seen.values()), 100)

    def test_latest_likely(self):
        """Beside the latest point of each scene without a lot of up to so many readings."""
        seen = {True: 0, False: 0}
        for scene in some_wrong(72, 40, 4):
            for many in (*range(len(scene[1]) + 2), 12):
                value = latest_likely(scene, many)
                self.assertEqual(latest_likely(many=many, scene=scene), value)
                enough = [lot for lot in all_lots(len(scene[1])) if len(lot) <= many and fits(without(scene, lot))]
                endless = [lot for lot in enough if all(row[2] is None for row in without(scene, lot)[1])]
                right = len(enough) > 0 and not endless
                seen[right] += 1
                self.assertEqual(value is not None, right, (scene, many))
                if right:
                    self.assertLessEqual(len(broken_by(scene, value)), many)
                    self.assertTrue(is_let((scene[0], (), scene[2]), value))
                    moments = [number_of(latest(without(scene, lot)), "t") for lot in enough]
                    self.assertEqual(max(compared(moment, number_of(value, "t")) for moment in moments), 0)
        self.assertGreater(min(seen.values()), 60)

    def test_latest_by_hand(self):
        scene = scene_of(FOUR, [("a", 0, 5), ("a", 0, 3), ("b", 0, 7)], [])
        for many, moment in ((0, Fraction(2)), (1, Fraction(3))):
            self.assertEqual(compared(number_of(latest_likely(scene, many), "t"), ((moment.numerator, moment.denominator), (0, 1), (0, 1))), 0)
        scene = scene_of(FOUR, [("a", None, 5), ("a", None, 3), ("a", 4, None), ("a", None, 9)], [])
        self.assertIsNone(latest_likely(scene, 0))
        for many, moment in ((1, 5), (2, 9)):
            self.assertEqual(compared(number_of(latest_likely(scene, many), "t"), ((moment, 1), (0, 1), (0, 1))), 0)
        for many in range(3, 13):
            # Without the three that have a HIGH moments have no end.
            self.assertIsNone(latest_likely(scene, many))
            self.assertIsNotNone(likely_point(scene, many))
        for many in range(13):
            self.assertIsNone(latest_likely(SPECIAL[0], many))
            self.assertIsNone(latest_likely(SPECIAL[2], many))
            self.assertIsNone(likely_point(SPECIAL[2], many))
            self.assertIsNone(latest_likely(SPECIAL[13], many))
            self.assertIsNotNone(likely_point(SPECIAL[13], many))
            # One reading with a HIGH, and K from 1 on lets it be wrong.
            self.assertEqual(latest_likely(SPECIAL[3], many) is not None, many == 0)

    def test_of_a_polygon(self):
        """With more sides: some place in them is likely exactly if the scene with them has a likely point."""
        scene = scene_of(FOUR, [("a", 5, 5), ("b", 5, 5), ("c", 5, 5), ("d", 9, 9)], [])
        for sides, many in ((sides_of((1, 0, 3), (-1, 0, -3), (0, 1, 4), (0, -1, -4)), 1),
                            (sides_of((1, 0, 3), (-1, 0, -3), (0, 1, 5), (0, -1, -5)), 2)):
            taken = (scene[0], scene[1], sides)
            self.assertEqual([likely_point(taken, most) is not None for most in range(4)], [many <= most for most in range(4)])


class PutIn(unittest.TestCase):
    def test_readings_put_in(self):
        """Behind the others they leave each lot that is not enough not enough."""
        chance = random.Random(73)
        for scene in some_wrong(74, 30, 3):
            more = [(chance.choice(scene[0])[0], chance.randint(-3, 3), chance.randint(4, 6)) for _ in range(chance.randint(1, 2))]
            longer = (scene[0], scene[1] + scene_of([], more, [])[1], scene[2])
            for lot in all_lots(len(scene[1])):
                if not is_enough(scene, lot):
                    self.assertIs(is_enough(longer, lot), False)
                whole = lot + tuple(range(len(scene[1]), len(longer[1])))
                self.assertIs(is_enough(longer, whole), is_enough(scene, lot))

    def test_readings_taken_for_right(self):
        """The least lots without any reading of a lot are the least ones of those that are enough and have none of it."""
        for scene in some_wrong(75, 30, 4):
            lots = least_lots(scene)
            for right in all_lots(len(scene[1])):
                free = [lot for lot in lots if not set(lot) & set(right)]
                enough = [lot for lot in all_lots(len(scene[1])) if not set(lot) & set(right) and is_enough(scene, lot)]
                self.assertEqual(tuple(free), least(enough))
                self.assertEqual(len(free) == 0, not fits(alone(scene, right)))


class Refusals(unittest.TestCase):
    def test_refusals(self):
        scene = ("scene", SCENE, InvalidScene, WRONG_SCENES)
        for function in (least_lots, fewest, suspects, cleared, conflicts, least_stations):
            refusals(self, function, [scene])
        for function in (is_enough, point_without):
            refusals(self, function, [scene, ("lot", (0, 2), InvalidLot, WRONG_LOTS)])
        for function in (likely_point, latest_likely):
            refusals(self, function, [scene, ("many", 2, InvalidCount, WRONG_WRONG)])
        refusals(self, broken_by, [scene, ("point", point(1, 2, 3), InvalidPoint, WRONG_POINTS)])

    def test_lots_of_no_readings(self):
        bare = (SCENE[0], (), SCENE[2])
        self.assertEqual(point_without(bare, ()) is not None, lets_a_place(SCENE))
        for value in [(0,), (0, 1)]:
            with self.assertRaises(InvalidLot) as caught:
                is_enough(bare, value)
            self.assertEqual(caught.exception.index, 0)
        for value in [value for value in ODD if not isinstance(value, tuple)]:
            with self.assertRaises(InvalidLot) as caught:
                point_without(bare, value)
            self.assertIsNone(caught.exception.index)


if __name__ == "__main__":
    unittest.main()
