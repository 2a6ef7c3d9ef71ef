"""Questions about places: possibly and surely beside candidates, shut places beside samples and edges by hand."""

import math
import random
import unittest
from fractions import Fraction

from helping import (FOUR, ODD, ONE, SCENE, TRIANGLE, WRONG_CORNERS, WRONG_PAIRS, WRONG_SCENES, WRONG_SIDE_ROWS,
                     as_fraction, corners_of, pair_of, pell, point, refusals, scene_of, sides_of, some_leads, some_scenes)
from latestshake.candidates import candidates, fits, fitting
from latestshake.errors import InvalidCorners, InvalidScene, InvalidSides, TooMany
from latestshake.leads import led_place, led_scene
from latestshake.points import is_point
from latestshake.questions import is_polygon, possibly, shut_place, surely
from latestshake.scenes import is_let, moments_at, within_sides

LESS = 1 / Fraction(10 ** 50)
# Just (3, 4) at 0 is let.
LONE = scene_of(FOUR, [("a", 5, 5), ("b", 5, 5), ("c", 5, 5)], [])
DUO = scene_of([("west", 0, 0), ("east", 6, 0), ("north", 3, 4)], [("west", 2, 4), ("east", 2, 4)], [])
LEADS = list(some_leads())


def with_sides(scene, sides):
    return scene[0], scene[1], scene[2] + sides


def opposite(side):
    return tuple((-top, bottom) for top, bottom in side)


def some_sides(chance, many):
    for _ in range(many):
        u, v = chance.choice([(u, v) for u in range(-3, 4) for v in range(-3, 4) if u or v])
        yield (u, v, Fraction(chance.randint(-12, 24), chance.choice([1, 2, 3])))


def some_places(chance, many):
    for _ in range(many):
        yield tuple(pair_of(Fraction(chance.randint(-24, 24), chance.choice([1, 2, 3, 4]))) for _ in range(2))


class Sides(unittest.TestCase):
    def check(self, scene, sides):
        """possibly and surely beside the candidates of scenes with the sides taken in."""
        taken = with_sides(scene, sides)
        if len(taken[2]) <= 8:
            told = possibly(scene, sides)
            self.assertEqual(told is not None, fits(taken))
            self.assertEqual(possibly(sides=sides, scene=scene), told)
            if told is not None:
                self.assertTrue(is_point(told))
                self.assertTrue(is_let(taken, told))
        if not sides or len(scene[2]) < 8:
            right = fits(scene) and not any(fits(with_sides(scene, (opposite(side),))) for side in sides)
            self.assertIs(surely(scene, sides), right)
            self.assertIs(surely(sides=sides, scene=scene), right)

    def test_beside_candidates(self):
        chance, seen = random.Random(31), {}
        for scene in some_scenes(32, 150):
            for _ in range(4):
                sides = sides_of(*some_sides(chance, chance.randint(0, 4)))
                self.check(scene, sides)
                key = possibly(scene, sides) is None, surely(scene, sides)
                seen[key] = seen.get(key, 0) + 1
        self.assertGreater(seen[True, False], 50)
        self.assertGreater(seen[False, False], 50)
        self.assertGreater(seen[False, True], 20)
        # With sides that are surely kept something fits, strictly within them.
        self.assertNotIn((True, True), seen)

    def test_no_sides(self):
        for scene in some_scenes(33, 60):
            self.assertEqual(possibly(scene, ()) is not None, fits(scene))
            self.assertIs(surely(scene, ()), fits(scene))

    def test_beside_places(self):
        """Each place that is let and within the sides tells a point; each one that is let is strictly within sure sides."""
        chance = random.Random(34)
        for scene in some_scenes(35, 100):
            sides = sides_of(*some_sides(chance, 2))
            sure = surely(scene, sides)
            for place in some_places(chance, 20):
                if moments_at(scene, place) is not None:
                    if within_sides((scene[0], (), sides), place):
                        self.assertIsNotNone(possibly(scene, sides))
                    on_or_beyond = [within_sides((scene[0], (), (opposite(side),)), place) for side in sides]
                    self.assertFalse(sure and any(on_or_beyond))

    def test_just_on_the_edge(self):
        for lead in LEADS:
            led = led_scene(lead, LONE)
            for u, v, at in ((1, 0, 3), (0, 1, 4), (-1, 0, -3), (3, 4, 25), (-2, 5, 14), (-4, -3, -24)):
                for more, there, sure in ((0, True, False), (LESS, True, True), (-LESS, False, False), (-1, False, False)):
                    sides = led_scene(lead, scene_of([("a", 0, 0)], [], [(u, v, at + more)]))[2]
                    self.assertEqual(possibly(led, sides) is not None, there)
                    self.assertIs(surely(led, sides), sure)
                    self.check(led, sides)

    def test_edges_by_hand(self):
        # Distances from west and east up to 2 apart: (x - 3)^2 up to 1 + y^2 / 8, that is up to 3 for y up to 4.
        strip = with_sides(DUO, sides_of((0, 1, 4), (0, -1, 4)))
        for value, there, sure in ((5, True, True), (4, True, False), (Fraction(13, 10), True, False), (Fraction(6, 5), False, False)):
            self.assertEqual(possibly(strip, sides_of((1, 0, value))) is not None, there)
            self.assertIs(surely(strip, sides_of((1, 0, value))), sure)
        # Up to 1 for y 0: x from 2 to 4.
        flat = with_sides(DUO, sides_of((0, 1, 0), (0, -1, 0)))
        self.assertIsNotNone(possibly(flat, sides_of((1, 0, 2))))
        self.assertIsNone(possibly(flat, sides_of((1, 0, 2 - LESS))))
        for east, west, sure in ((0, 0, False), (LESS, 0, False), (0, LESS, False), (LESS, LESS, True), (-LESS, LESS, False)):
            self.assertIs(surely(flat, sides_of((1, 0, 4 + east), (-1, 0, -2 + west))), sure)
        # For y 4 the edge is at 3 less root(3), and at 3 and root(3).
        high = with_sides(DUO, sides_of((0, 1, 4), (0, -1, -4)))
        root, step = Fraction(math.isqrt(3 * 10 ** 80), 10 ** 40), Fraction(1, 10 ** 39)
        self.assertIsNone(possibly(high, sides_of((1, 0, 3 - root - step))))
        self.assertIsNotNone(possibly(high, sides_of((1, 0, 3 - root + step))))
        self.assertIs(surely(high, sides_of((1, 0, 3 + root))), False)
        self.assertIs(surely(high, sides_of((1, 0, 3 + root + step))), True)

    def test_opposite_sides(self):
        for line in ((1, 0, 3), (2, -3, -6), (0, -5, -20)):
            side = sides_of(line)
            for scene in (LONE, DUO):
                both = side + (opposite(side[0]),)
                self.check(scene, both)
                self.assertIs(surely(scene, both), False)
                self.assertIsNotNone(possibly(scene, both))
                self.check(scene, both + sides_of((line[0], line[1], line[2] - LESS)))
                self.assertIsNone(possibly(scene, both + sides_of((line[0], line[1], line[2] - LESS))))

    def test_sides_of_a_polygon(self):
        # Sides with (3, 4) as a corner, on an edge, inside, outside.
        for corners, there in [
            (((3, 4), (5, 4), (4, 6)), True), (((2, 4), (4, 4), (3, 6)), True), (((2, 3), (4, 3), (3, 6)), True),
            (((2, 3), (4, 3), (3, 4 - LESS)), False), (((3 + LESS, 4), (5, 4), (4, 6)), False),
        ]:
            sides = []
            for (ax, ay), (bx, by) in zip(corners, corners[1:] + corners[:1]):
                u, v = by - ay, ax - bx
                sides.append((u, v, u * ax + v * ay))
            self.assertEqual(possibly(LONE, sides_of(*sides)) is not None, there)
            strictly = there and corners == ((2, 3), (4, 3), (3, 6))
            self.assertIs(surely(LONE, sides_of(*sides)), strictly)

    def test_nothing_fits(self):
        none = scene_of(FOUR, [("a", 5, 5), ("b", 5, 5), ("c", 5, 5), ("d", 9, 9)], [])
        shut = scene_of(FOUR, [("a", 5, 5)], [(1, 0, 0), (-1, 0, -1)])
        bare = scene_of(FOUR, [], [(1, 0, 0), (-1, 0, -1)])
        for scene in (none, shut, bare):
            for sides in ((), sides_of((1, 0, 100)), sides_of((0, 1, 9), (1, 0, 9))):
                self.assertIs(surely(scene, sides), False)
                self.assertIsNone(possibly(scene, sides))

    def test_without_readings(self):
        box = scene_of(FOUR, [], [(1, 0, 4), (-1, 0, 4), (0, 1, 4), (0, -1, 4)])
        for line, there, sure in (((1, 1, -8), True, False), ((1, 1, -8 - LESS), False, False), ((1, 1, 8), True, False),
                                  ((1, 1, 8 + LESS), True, True), ((1, 0, 4 + LESS), True, True)):
            self.assertEqual(possibly(box, sides_of(line)) is not None, there)
            self.assertIs(surely(box, sides_of(line)), sure)
            self.check(box, sides_of(line))
        self.assertIs(surely(scene_of(FOUR, [], []), sides_of((1, 0, 10 ** 9))), False)

    def test_too_many(self):
        side = sides_of((1, 0, 100))
        for own in range(9):
            scene = (LONE[0], LONE[1], side * own)
            for more in range(9):
                if own + more > 8:
                    with self.assertRaises(TooMany) as caught:
                        possibly(scene, side * more)
                    self.assertEqual(caught.exception.given, side * more)
                else:
                    self.assertIsNotNone(possibly(scene, side * more))
                if own == 8 and more:
                    with self.assertRaises(TooMany) as caught:
                        surely(scene, side * more)
                    self.assertEqual(caught.exception.given, side * more)
                else:
                    self.assertIs(surely(scene, side * more), True)
        full = (LONE[0], LONE[1], side * 8)
        for function in (possibly, surely):
            given = side * 3
            with self.assertRaises(TooMany) as caught:
                function(full, given)
            self.assertIs(caught.exception.given, given)
            # What is told with last is checked behind all else; also where nothing fits.
            with self.assertRaises(InvalidSides) as caught:
                function(full, side * 2 + (None,))
            self.assertEqual(caught.exception.index, 2)
            with self.assertRaises(InvalidSides) as caught:
                function(full, side * 9)
            self.assertIsNone(caught.exception.index)
            with self.assertRaises(InvalidScene) as caught:
                function((LONE[0], LONE[1], side * 9), side * 9)
            self.assertEqual(caught.exception.path, (2,))
            with self.assertRaises(TooMany):
                function((LONE[0], LONE[1], sides_of((1, 0, 0), (-1, 0, -1)) * 4), side)

    def test_led(self):
        chance = random.Random(36)
        for scene in some_scenes(37, 80):
            lead = chance.choice(LEADS)
            sides = sides_of(*some_sides(chance, 2))
            led_sides = led_scene(lead, (scene[0], (), sides))[2]
            led = led_scene(lead, scene)
            self.assertEqual(possibly(led, led_sides) is None, possibly(scene, sides) is None)
            self.assertIs(surely(led, led_sides), surely(scene, sides))

    def test_points_are_candidates(self):
        for scene in some_scenes(38, 40):
            told = possibly(scene, ())
            if told is not None:
                self.assertIn(told, [candidates(scene)[index][1] for index in fitting(scene)])

    def test_refusals(self):
        right = sides_of((1, 0, 3))
        for function in (possibly, surely):
            refusals(self, function, [
                ("scene", SCENE, InvalidScene, WRONG_SCENES), ("sides", right, InvalidSides, WRONG_SIDE_ROWS)])


def turned_once(corners):
    """Whether corners tell a polygon: all turns to the left, together one whole turn, by angles."""
    told = [(float(as_fraction(x)), float(as_fraction(y))) for x, y in corners]
    ways = [(bx - ax, by - ay) for (ax, ay), (bx, by) in zip(told, told[1:] + told[:1])]
    turns = [math.atan2(u[0] * v[1] - u[1] * v[0], u[0] * v[0] + u[1] * v[1]) for u, v in zip(ways, ways[1:] + ways[:1])]
    return all(1e-9 < turn < math.pi - 1e-9 for turn in turns) and abs(sum(turns) - 2 * math.pi) < 1e-6


def some_polygon(chance, wide=8):
    while True:
        corners = sorted({(chance.randint(-wide, wide), chance.randint(-wide, wide)) for _ in range(chance.randint(3, 11))})
        hull = half_of(corners)[:-1] + half_of(corners[::-1])[:-1]
        if 3 <= len(hull) <= 8:
            start = chance.randrange(len(hull))
            return [(Fraction(x, 2), Fraction(y, 2)) for x, y in hull[start:] + hull[:start]]


def half_of(corners):
    found = []
    for x, y in corners:
        while len(found) > 1 and (found[-1][0] - found[-2][0]) * (y - found[-2][1]) <= (found[-1][1] - found[-2][1]) * (x - found[-2][0]):
            found.pop()
        found.append((x, y))
    return found


class Polygons(unittest.TestCase):
    def test_right_ones(self):
        for told in [
            ((0, 0), (1, 0), (0, 1)), ((0, 0), (1, 0), (1, 1), (0, 1)), ((0, 0), (2, -1), (4, 0), (4, 3), (2, 4), (0, 3)),
            ((1, 0), (3, 0), (4, 1), (4, 3), (3, 4), (1, 4), (0, 3), (0, 1)), ((0, 0), (1, 0), (1, LESS)),
            ((0, 0), (10 ** 300, 1), (10 ** 300, 2)), ((0, 0), (Fraction(1, 3), Fraction(-1, 7)), (Fraction(1, 2), 0)),
        ]:
            for start in range(len(told)):
                corners = corners_of(*told[start:], *told[:start])
                self.assertIs(is_polygon(corners), True)
                self.assertIs(is_polygon(value=corners), True)
                self.assertIs(is_polygon(corners[::-1]), False)
                self.assertIs(is_polygon(list(corners)), False)

    def test_wrong_ones(self):
        star = ((0, 10), (-6, -8), (9, 3), (-9, 3), (6, -8))
        for told in [
            ((0, 0), (1, 0)), ((0, 0), (1, 0), (2, 0)), ((0, 0), (1, 0), (2, 0), (1, 1)), ((0, 0), (2, 0), (1, 0), (1, 1)),
            ((0, 0), (1, 0), (0, 1), (0, 0)), ((0, 0), (0, 0), (1, 0), (0, 1)), ((0, 0), (1, 0), (1, 1), (1, 0), (0, 1)),
            ((0, 0), (4, 0), (1, 1), (0, 4)), ((0, 0), (1, 0), (0, 1)) * 2, ((0, 0), (2, 2), (2, 0), (0, 2)), star,
            ((0, 0), (1, 0), (1, 1), (0, 1)) * 2, ((0, 0), (4, 0), (4, 4), (0, 4), (1, 1), (3, 1), (3, 3), (1, 3)),
            tuple((x, x * x) for x in range(9)), ((5, 0), (0, 5), (-5, 0), (4, -1), (-1, 4), (-4, -3)),
            ((0, 0), (1, 0), (1, 0)), ((0, 0),) * 3, ((0, 0),) * 8, ((0, 0), (1, 0), (0, 0), (0, 1)),
        ]:
            corners = corners_of(*told)
            self.assertIs(is_polygon(corners), False, told)
            with self.assertRaises(InvalidCorners) as caught:
                shut_place(SCENE, corners)
            self.assertIsNone(caught.exception.index)
        # Going round twice, to the left at each of the corners.
        ways = [(bx - ax, by - ay) for (ax, ay), (bx, by) in zip(star, star[1:] + star[:1])]
        self.assertTrue(all(u * y > v * x for (u, v), (x, y) in zip(ways, ways[1:] + ways[:1])))
        self.assertIs(is_polygon(corners_of(*((0, 10), (9, 3), (6, -8), (-6, -8), (-9, 3))[::-1])), True)

    def test_beside_angles(self):
        chance, seen = random.Random(41), {True: 0, False: 0}
        for _ in range(3000):
            many = chance.choice([3, 3, 4, 4, 5, 6, 7, 8])
            corners = corners_of(*[(chance.randint(-3, 3), chance.randint(-3, 3)) for _ in range(many)])
            if len(set(corners)) < many:
                self.assertIs(is_polygon(corners), False)
                continue
            right = turned_once(corners)
            seen[right] += 1
            self.assertIs(is_polygon(corners), right, corners)
        for _ in range(300):
            corners = corners_of(*some_polygon(chance))
            self.assertIs(is_polygon(corners), True)
            self.assertIs(is_polygon(corners[1:] + corners[:1]), True)
            self.assertIs(is_polygon((corners[1], corners[0], *corners[2:])), False)
        self.assertGreater(min(seen.values()), 100)

    def test_whatever_it_is(self):
        for value, _ in WRONG_CORNERS:
            self.assertIs(is_polygon(value), False)
        for value in [*ODD, 0, 1, ONE]:
            self.assertIs(is_polygon(value), False)
            for at in range(3):
                self.assertIs(is_polygon((*TRIANGLE[:at], value, *TRIANGLE[at + 1:])), False)
        for value in WRONG_PAIRS:
            self.assertIs(is_polygon((*TRIANGLE, value)), False)


def square(west, south, east, north):
    return corners_of((west, south), (east, south), (east, north), (west, north))


def in_polygon(corners, place):
    x, y = [as_fraction(part) for part in place]
    told = [(as_fraction(a), as_fraction(b)) for a, b in corners]
    return all((bx - ax) * (y - ay) >= (by - ay) * (x - ax) for (ax, ay), (bx, by) in zip(told, told[1:] + told[:1]))


def most_apart(corners, near, far, many=200):
    """The greatest |x - far| less |x - near| over a polygon, roughly: at near, if it is there, or along the edges."""
    told = [(float(as_fraction(x)), float(as_fraction(y))) for x, y in corners]
    found = []
    if in_polygon(corners, near):
        found.append(math.dist([float(as_fraction(part)) for part in near], [float(as_fraction(part)) for part in far]))
    near, far = [[float(as_fraction(part)) for part in place] for place in (near, far)]
    for (ax, ay), (bx, by) in zip(told, told[1:] + told[:1]):
        for step in range(many + 1):
            place = (ax + (bx - ax) * step / many, ay + (by - ay) * step / many)
            found.append(math.dist(place, far) - math.dist(place, near))
    return max(found)


class ShutPlaces(unittest.TestCase):
    def shut(self, scene, corners):
        """What shut_place tells, a place of the polygon that is not let, or None."""
        told = shut_place(scene, corners)
        self.assertEqual(shut_place(corners=corners, scene=scene), told)
        if told is not None:
            self.assertTrue(in_polygon(corners, told), (corners, told))
            self.assertIsNone(moments_at(scene, told))
        return told

    def everywhere(self, told, corners, is_shut):
        """The same led every way: mirrored corners are told the other way round."""
        for lead in LEADS[::3]:
            led = tuple(led_place(lead, place) for place in corners)
            self.assertEqual(self.shut(led_scene(lead, told), led[::-1] if lead[2] else led) is not None, is_shut)

    def pair(self, low, high, w=6):
        """LOW at (0, 0), HIGH at (w, 0), k being high less low: let where |x - s'| less |x - s| is up to k."""
        return scene_of([("s", 0, 0), ("t", w, 0)], [("s", low, None), ("t", None, high)], [])

    def test_k_from_w_on(self):
        for corners in (square(-9, -9, 9, 9), square(-9, -1, -3, 1), square(-1, -1, 1, 1), square(7, -1, 9, 1)):
            for k in (6, 6 + LESS, 7, 100, 10 ** 300):
                for low in (0, 5, Fraction(-1, 3)):
                    self.everywhere(self.pair(low, low + k), corners, False)
        # Just below w a thin branch along the line away from the other station is shut: with the station, without it.
        for corners, is_shut in [(square(-9, -9, 9, 9), True), (square(-9, -1, -3, 1), True), (square(-1, -1, 1, 1), True),
                                 (square(-9, 0, -3, 1), True), (square(-9, 1, -3, 2), False), (square(1, -1, 9, 1), False),
                                 (square(7, -1, 9, 1), False), (square(LESS, -1, 2, 1), False)]:
            self.everywhere(self.pair(0, 6 - LESS), corners, is_shut)
        p, q = pell(60)
        two = scene_of([("s", 0, 0), ("t", q, q)], [("s", 0, None), ("t", None, p)], [])
        self.assertEqual(self.shut(two, square(-1, -1, 1, 1)) is not None, p * p < 2 * q * q)

    def test_k_0(self):
        # All places nearer to s than to s' are shut: those on the line between are not.
        for corners, is_shut in [(square(3, -9, 9, 9), False), (square(3 - LESS, -9, 9, 9), True), (square(-9, -9, 9, 9), True),
                                 (corners_of((3, 0), (9, -1), (9, 1)), False), (corners_of((3 - LESS, 0), (9, -1), (9, 1)), True),
                                 (square(-1, -1, 1, 1), True), (square(0, 0, 1, 1), True), (square(-5, 2, 1, 3), True)]:
            self.everywhere(self.pair(4, 4), corners, is_shut)

    def test_between(self):
        # k 2: (x - 3)^2 from 1 + y^2 / 8 on, x below 3, is shut within: about the station, from x 2 on back.
        for corners, is_shut in [
            # The station in the polygon, whose corners and edges are all let; on its edge; at a corner; just outside.
            (corners_of((-1000, -9000), (4, 0), (-1000, 9000)), True),
            (square(0, -1, 1, 1), True), (corners_of((0, 0), (1, -1), (1, 1)), True), (square(-1, -1, 0, 1), True),
            # An edge that goes through the branch, no corner in it.
            (square(1, -4, 9, 4), True), (corners_of((1, -9), (9, 0), (1, 9)), True),
            (square(Fraction(19, 10), -4, 9, 4), True), (square(2 - LESS, -4, 9, 4), True),
            # One that just touches it: in the midst, at a corner.
            (square(2, -4, 9, 4), False), (square(2, 0, 9, 4), False), (square(2, -4, 9, 0), False),
            (square(2, -4, 9, 1), False), (square(2 - LESS, -4, 9, 1), True), (square(2 - LESS, Fraction(-1, 3), 9, 4), True),
            (corners_of((2, 0), (4, -9), (4, 9)), False), (corners_of((2 - LESS, 0), (4, -9), (4, 9)), True),
            # Where A A is above 4 k k |x - s|^2, too, but A below 0: the other branch, on which nothing is shut.
            (square(4, -4, 9, 4), False), (square(5, -1, 7, 1), False), (square(6, 0, 7, 1), False), (square(30, -4, 90, 4), False),
            # Beside the branch.
            (square(-2, 20, 2, 21), False), (square(-9, 3, -8, 4), True), (square(2, 5, 3, 9), False),
        ]:
            self.everywhere(self.pair(0, 2), corners, is_shut)
            self.everywhere(self.pair(Fraction(-7, 3), Fraction(-1, 3)), corners, is_shut)
        # At (1, y) it is (1 + 2)^2 less: 4 - 1 is y y / 8.
        self.everywhere(self.pair(0, 2), corners_of((1, 5), (4, 5), (1, 99)), False)
        self.everywhere(self.pair(0, 2), corners_of((1, 4), (4, 5), (1, 99)), True)

    def test_touching_a_slant_edge(self):
        # At (0, 8) (x - 3)^2 - y^2 / 8 is 1, and grows along (- 6, - 2): the branch touches the line 3 x + y = 8 there.
        p = self.pair(0, 2)
        self.everywhere(p, corners_of((-1, 11), (1, 5), (2, 20)), False)
        self.everywhere(p, corners_of((-1, 11 - LESS), (1, 5 - LESS), (2, 20)), True)
        self.everywhere(p, corners_of((-1, 11 + LESS), (1, 5 + LESS), (2, 20)), False)
        # Not in the middle of the edge.
        for start, end in (((-1, 11), (2, 2)), ((-5, 23), (1, 5)), ((Fraction(-1, 7), Fraction(59, 7)), (2, 2))):
            for more, is_shut in ((0, False), (-LESS, True), (LESS, False)):
                self.everywhere(p, corners_of((start[0], start[1] + more), (end[0], end[1] + more), (3, 40)), is_shut)
        # The edge ends ahead of where it would touch: just touching at a corner, and not at all.
        self.everywhere(p, corners_of((0, 8), (1, 5), (2, 20)), False)
        self.everywhere(p, corners_of((0, 8 - LESS), (1, 5), (2, 20)), True)
        self.everywhere(p, corners_of((Fraction(1, 2), Fraction(13, 2)), (1, 5), (2, 20)), False)

    def test_k_below_0(self):
        # k - 2: only the inside of the branch about s' is let, with its edge: x from 4 on at y 0.
        for corners, is_shut in [
            (square(5, -1, 7, 1), False), (square(4, -1, 7, 1), True), (corners_of((4, 0), (7, -1), (7, 1)), False),
            (corners_of((4 - LESS, 0), (7, -1), (7, 1)), True), (square(3, -1, 4, 1), True), (square(-9, -9, 9, 9), True),
            # (6, 8): 8 up to 10 less 2, just so.
            (corners_of((6, -8), (7, 0), (6, 8)), False), (corners_of((6, -8), (7, 0), (6, 8 + LESS)), True),
            (corners_of((6, -8), (7, 0), (6 - LESS, 8)), True), (square(-1, -1, 1, 1), True),
        ]:
            self.everywhere(self.pair(0, -2), corners, is_shut)
        # k - w: just the line from s' on away from s is let: no polygon is. Below that nothing is.
        for k in (-6, -6 - LESS, -7, -100):
            for corners in (square(7, -1, 9, 1), square(6, 0, 9, 1), square(-1, -1, 1, 1)):
                self.everywhere(self.pair(0, k), corners, True)
        self.everywhere(self.pair(0, -6 + LESS), corners_of((7, 0), (8, -LESS ** 2), (8, LESS ** 2)), False)

    def test_one_station(self):
        # Its LOW up to another HIGH: all is let; above it: nothing is.
        for low, high, is_shut in ((0, 0, False), (0, LESS, False), (LESS, 0, True), (5, 4, True), (-9, 4, False)):
            scene = scene_of([("s", 0, 0), ("t", 6, 0)], [("s", low, None), ("s", None, high)], [])
            for corners in (square(-1, -1, 1, 1), square(3, 3, 4, 4), square(0, 0, 1, 1)):
                self.everywhere(scene, corners, is_shut)

    def test_sides(self):
        for readings in ([], [("a", None, 5)], [("a", 5, None)], [("a", 3, 5), ("b", 0, 99)]):
            scene = scene_of(FOUR, readings, [(1, 0, 2), (-1, -1, 4)])
            for corners, is_shut in [
                (square(-1, -1, 1, 1), False), (square(-2, -2, 2, 2), False), (square(-2, -2, 2 + LESS, 2), True),
                (square(-2, -2 - LESS, 2, 2), True), (square(5, 5, 6, 6), True), (square(-9, -9, 9, 9), True),
                (corners_of((2, -6), (2, 6), (-10, 6)), False), (corners_of((2, -6 - LESS), (2, 6), (-10, 6)), True),
            ]:
                self.assertEqual(self.shut(scene, corners) is not None, is_shut)
        # Sides that let no place, and a place alone.
        self.assertIsNotNone(self.shut(scene_of(FOUR, [], [(1, 0, 0), (-1, 0, -1)]), square(0, 0, 1, 1)))
        self.assertIsNotNone(self.shut(scene_of(FOUR, [], [(1, 0, 0), (-1, 0, 0), (0, 1, 0), (0, -1, 0)]), square(0, 0, 1, 1)))

    def test_without_lows_or_highs(self):
        for scene in some_scenes(42, 60):
            for readings in ([(name, None, high) for name, low, high in scene[1] if high is not None],
                             [(name, low, None) for name, low, high in scene[1] if low is not None], []):
                part = (scene[0], tuple(readings), ())
                self.assertIsNone(self.shut(part, corners_of(*some_polygon(random.Random(43)))))

    def test_beside_places(self):
        """Where None is told each place tried is let."""
        chance, seen = random.Random(44), {True: 0, False: 0}
        for scene in some_scenes(45, 250, 3):
            for wide in (1, 3, 9):
                corners = some_polygon(chance, wide)
                told = self.shut(scene, corners_of(*corners))
                seen[told is None] += 1
                if told is None:
                    for _ in range(30):
                        parts = [chance.choice([0, 0, 1, 3, 10]) for _ in corners]
                        many = sum(parts) or 1
                        place = [sum(part * corner[axis] for part, corner in zip(parts, corners)) / many for axis in (0, 1)]
                        if sum(parts):
                            self.assertIsNotNone(moments_at(scene, tuple(pair_of(part) for part in place)))
        self.assertGreater(min(seen.values()), 100)

    def test_beside_edges_by_steps(self):
        chance, seen = random.Random(46), {True: 0, False: 0}
        for _ in range(400):
            near, far = [(Fraction(chance.randint(-8, 8), 2), Fraction(chance.randint(-8, 8), 2)) for _ in range(2)]
            if near == far:
                continue
            corners = corners_of(*some_polygon(chance, chance.choice([3, 8, 14])))
            low, k = chance.randint(-3, 3), Fraction(chance.randint(-20, 60), 10)
            scene = scene_of([("s", *near), ("t", *far)], [("s", low, None), ("t", None, low + k)], [])
            most = most_apart(corners, scene[0][0][1:], scene[0][1][1:])
            if abs(most - k) > 0.02:
                seen[most > k] += 1
                self.assertEqual(self.shut(scene, corners) is not None, most > k)
        self.assertGreater(min(seen.values()), 80)

    def test_the_place_is_one_of_those_told(self):
        """A corner, the station of the low row, or a place between two corners."""
        chance = random.Random(47)
        for scene in some_scenes(48, 200, 3):
            corners = corners_of(*some_polygon(chance))
            told = self.shut((scene[0], scene[1], ()), corners)
            if told is None or told in corners:
                continue
            stations = {name: tuple(place) for name, *place in scene[0]}
            lows = [stations[name] for name, low, _ in scene[1] if low is not None]
            pairs = [(as_fraction(ax), as_fraction(ay), as_fraction(bx), as_fraction(by))
                     for (ax, ay), (bx, by) in zip(corners, corners[1:] + corners[:1])]
            x, y = [as_fraction(part) for part in told]
            on_edge = any((bx - ax) * (y - ay) == (by - ay) * (x - ax) for ax, ay, bx, by in pairs)
            self.assertTrue(on_edge or told in lows)

    def test_led(self):
        chance = random.Random(49)
        for scene in some_scenes(50, 120, 4):
            lead = chance.choice(LEADS)
            corners = corners_of(*some_polygon(chance, 4))
            led = tuple(led_place(lead, place) for place in corners)
            led = led[::-1] if lead[2] else led
            self.assertEqual(self.shut(led_scene(lead, scene), led) is None, self.shut(scene, corners) is None)

    def test_possibly_and_shut(self):
        """If all places of a polygon are let, each part of it possibly is; a polygon that is never in is shut."""
        chance = random.Random(51)
        for scene in some_scenes(52, 80, 3):
            told = some_polygon(chance, 5)
            edges = list(zip(told, told[1:] + told[:1]))
            sides = sides_of(*[(by - ay, ax - bx, (by - ay) * ax + (ax - bx) * ay) for (ax, ay), (bx, by) in edges])
            if len(scene[2]) + len(sides) > 8:
                continue
            shut = self.shut(scene, corners_of(*told))
            there = possibly(scene, sides)
            self.assertTrue(shut is not None or there is not None)

    def test_point_in_the_open(self):
        self.assertIsNone(shut_place(scene_of(FOUR, [], []), TRIANGLE))
        self.assertEqual(possibly(scene_of(FOUR, [], []), ()), point(0, 0, 0))

    def test_refusals(self):
        refusals(self, shut_place, [
            ("scene", SCENE, InvalidScene, WRONG_SCENES), ("corners", TRIANGLE, InvalidCorners, WRONG_CORNERS)])


if __name__ == "__main__":
    unittest.main()
