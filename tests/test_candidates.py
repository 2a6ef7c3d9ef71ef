"""Candidates beside ones found by a second way; what fits, the latest and the earliest moment."""

import functools
import itertools
import random
import unittest
from decimal import Decimal, localcontext
from fractions import Fraction

from helping import (NIL, SCENE, WRONG_SCENES, as_fraction, decimal_of, heard_decimal, led_point,
                     pair_of, pell, point, refusals, scene_of, sign_by_decimals, some_leads, some_scenes)
from latestshake.candidates import candidates, earliest, fits, fitting, latest
from latestshake.errors import InvalidScene
from latestshake.leads import led_scene
from latestshake.numbers import compared, floor_at
from latestshake.points import is_point, number_of, ordered
from latestshake.scenes import is_let, moments_at, rows_of, states_at

LESS = 1 / Fraction(10 ** 50)
DIGITS = 150
BOX = [(1, 0, 4), (-1, 0, 4), (0, 1, 4), (0, -1, 4)]

# Stations on one line, readings alike, several of one station; sides parallel, through stations and through one point,
# told twice by multiples; tips on one another's cones.
DEGENERATE = [scene_of(*told) for told in [
    ([("a", 0, 0), ("b", 2, 0), ("c", 6, 0)], [("a", 3, 5), ("b", 3, 5), ("c", 3, 5)], []),
    ([("a", 0, 0), ("b", 2, 0), ("c", 6, 0)], [("a", 0, 0), ("b", 2, 2), ("c", 6, 6)], [(0, 1, 0), (0, -1, 0)]),
    ([("a", 0, 0), ("b", 2, 0), ("c", 6, 0)], [("a", 0, 1), ("b", 0, 2), ("c", 0, 3)], [(0, 1, 1), (0, 2, 2), (0, -1, 1)]),
    ([("a", 0, 0)], [("a", 1, 1), ("a", 1, 1), ("a", 0, 1), ("a", 1, 2), ("a", None, 1)], [(1, 0, 0), (1, 0, 1)]),
    ([("a", 0, 0), ("b", 3, 4)], [("a", 5, 5), ("a", 5, 5), ("b", 0, 10), ("b", 0, 10)], [(4, -3, 0), (-4, 3, 0)]),
    ([("a", 0, 0), ("b", 3, 4)], [("a", 1, 2), ("b", 1, 2)], [(1, 0, 3), (0, 1, 4), (-1, -1, 0), (1, -1, 0)]),
    ([("a", 1, 1), ("b", -1, 1), ("c", 1, -1), ("d", -1, -1)], [(name, 0, 2) for name in "abcd"], []),
    ([("a", 1, 1), ("b", -1, 1), ("c", 1, -1), ("d", -1, -1)], [(name, 2, 2) for name in "abcd"], [(1, 0, 0), (0, 1, 0)]),
    ([("a", 0, 0), ("b", 0, 4)], [("a", None, 0), ("b", 4, 4)], [(1, 0, 1), (1, 0, 0), (-1, 0, 1), (2, 0, 2)]),
    ([("a", 0, 0), ("b", 3, 4)], [("a", 0, 0), ("b", 4, 4)], [(1, 0, 1), (-2, 0, -2), (0, 1, 0), (0, 2, 0)]),
    ([("a", 0, 0)], [("a", None, 5)], [(1, 0, 1), (2, 0, 1), (-1, 0, 3)]),
    ([("a", 0, 0)], [("a", 5, None)], [(1, 0, 1), (2, 0, 1), (-1, 0, 3), (1, 1, 0)]),
    ([("a", 0, 0), ("b", 1, 1)], [], [(1, 0, 1), (0, 1, 1), (1, 1, 2), (-1, 1, 0)]),
    ([("a", 0, 0), ("b", 1, 1)], [], [(1, 0, -1), (-1, 0, 1)]),
    ([("a", 0, 0), ("b", 1, 1)], [], []),
    ([("a", 0, 0), ("b", 1, 0)], [("a", None, 0), ("b", None, 1)], [(0, 1, 0)]),
    ([("a", 0, 0), ("b", 1, 0), ("c", 0, 1)], [("a", 2, 2), ("b", 1, 1), ("c", 3, 3)], [(1, 1, 1), (1, -1, 0)]),
]]


def told_rows(scene):
    """Triples of the kind of a row, its station's place or its U and V, and its number, as Fractions."""
    stations = {name: (as_fraction(x), as_fraction(y)) for name, x, y in scene[0]}
    rows = []
    for kind, index in rows_of(scene):
        if kind == "side":
            u, v, limit = [as_fraction(part) for part in scene[2][index]]
            rows.append((kind, (u, v), limit))
        else:
            name, low, high = scene[1][index]
            rows.append((kind, stations[name], as_fraction(low if kind == "low" else high)))
    return rows


def exact(value):
    return Decimal(value.numerator) / Decimal(value.denominator)


def by_two(first, other):
    (_, (x, y), c), (kind, (u, v), limit) = first, other
    if kind == "side":
        away = (exact(limit) - exact(u) * exact(x) - exact(v) * exact(y)) / exact(u * u + v * v)
        east, north = exact(u) * away, exact(v) * away
        return [(exact(x) + east, exact(y) + north, exact(c) - (east * east + north * north).sqrt())]
    square = (u - x) ** 2 + (v - y) ** 2
    if square == 0 or (limit - c) ** 2 > square:
        return []
    wide = exact(square).sqrt()
    share = (wide + exact(c) - exact(limit)) / 2 / wide
    return [(exact(x) + exact(u - x) * share, exact(y) + exact(v - y) * share, (exact(c) + exact(limit) - wide) / 2)]


def linear(first, other):
    """The linear row as the document tells it: the factors of x, y, t, and the right side."""
    (_, (x, y), c), (kind, (u, v), limit) = first, other
    if kind == "side":
        return [u, v, Fraction(0), limit]
    return [2 * (u - x), 2 * (v - y), -2 * (limit - c), c * c - limit * limit - x * x - y * y + u * u + v * v]


def line_of(one, two):
    """A point and a way of the line on which both linear rows are, by elimination; None if they tell none."""
    rows, columns = [one, two], []
    for column in range(3):
        row = next((index for index in range(len(columns), 2) if rows[index][column] != 0), None)
        if row is None:
            continue
        at = len(columns)
        rows[at], rows[row] = rows[row], rows[at]
        rows[at] = [value / rows[at][column] for value in rows[at]]
        rows[1 - at] = [value - rows[1 - at][column] * lead for value, lead in zip(rows[1 - at], rows[at])]
        columns.append(column)
        if len(columns) == 2:
            break
    if len(columns) < 2:
        return None
    free = 3 - sum(columns)
    start, way = [Fraction(0)] * 3, [Fraction(0)] * 3
    way[free] = Fraction(1)
    for index, column in enumerate(columns):
        start[column], way[column] = rows[index][3], -rows[index][free]
    return start, way


def by_three(rows):
    (_, (x, y), c), second, third = rows
    line = line_of(linear(rows[0], second), linear(rows[0], third))
    if line is None:
        return []
    start, way = line

    def value(at):
        east, north, late = [begin + at * step for begin, step in zip(start, way)]
        return (c - late) ** 2 - (east - x) ** 2 - (north - y) ** 2

    # A polynomial of degree up to 2 is told by three of its values.
    bend, rest = (value(1) + value(-1)) / 2 - value(0), value(0)
    slope = value(1) - bend - rest
    if bend == 0:
        ats = [] if slope == 0 else [exact(-rest / slope)]
    else:
        square = slope * slope - 4 * bend * rest
        roots = [] if square < 0 else [0] if square == 0 else [-exact(square).sqrt(), exact(square).sqrt()]
        ats = [(exact(-slope) + root) / exact(2 * bend) for root in roots]
    found = [tuple(exact(begin) + at * exact(step) for begin, step in zip(start, way)) for at in ats]
    limits = [exact(limit) for kind, _, limit in rows if kind != "side"]
    found = [told for told in found if all(sign_by_decimals(told[2] - limit, DIGITS) <= 0 for limit in limits)]
    return sorted(found, key=functools.cmp_to_key(order_of))


def order_of(first, other):
    for index in (2, 0, 1):
        sign = sign_by_decimals(first[index] - other[index], DIGITS)
        if sign:
            return sign
    return 0


def solved(scene):
    """Pairs of the indexes of rows and (x, y, t) by decimals, as the document tells the candidates."""
    more = not scene[1]
    rows = told_rows((scene[0], ((scene[0][0][0], NIL, None),), scene[2]) if more else scene)
    found = []
    for many in (1, 2, 3):
        for chosen in itertools.combinations(range(len(rows)), many):
            told = [rows[index] for index in chosen]
            if told[0][0] == "side":
                continue
            if many == 1:
                points = [(*[exact(part) for part in told[0][1]], exact(told[0][2]))]
            else:
                points = by_two(*told) if many == 2 else by_three(told)
            names = tuple(index - 1 for index in chosen if index) if more else chosen
            found += [(names, value) for value in points]
    return found


def decimals_of(value):
    return [decimal_of((*pair, value[3]), DIGITS) for pair in value[:3]]


def fits_by_decimals(scene, value):
    """Whether a point breaks no row, by decimals."""
    for kind, (u, v), limit in told_rows(scene):
        if kind == "side":
            x, y, _ = decimals_of(value)
            over = exact(u) * x + exact(v) * y - exact(limit)
        else:
            over = heard_decimal(value, u, v, DIGITS) - exact(limit)
            over = over if kind == "high" else -over
        if sign_by_decimals(over, DIGITS) > 0:
            return False
    return True


def can_be(limits):
    """Whether some x, y have u x + v y up to c for all (u, v, c) of Fractions: y is eliminated."""
    rows = [(u, limit) for u, v, limit in limits if v == 0]
    uppers = [(u / v, limit / v) for u, v, limit in limits if v > 0]
    lowers = [(u / v, limit / v) for u, v, limit in limits if v < 0]
    rows += [(high[0] - low[0], high[1] - low[1]) for high in uppers for low in lowers]
    most = min([limit / u for u, limit in rows if u > 0], default=None)
    least = max([limit / u for u, limit in rows if u < 0], default=None)
    if any(u == 0 and limit < 0 for u, limit in rows):
        return False
    return most is None or least is None or least <= most


def limits_of(scene):
    return [tuple(as_fraction(part) for part in side) for side in scene[2]]


def do_bound(scene):
    """Whether no way leads on within the sides for ever."""
    ways = [(u, v, Fraction(0)) for u, v, _ in limits_of(scene)]
    return not any(can_be([*ways, (Fraction(u), Fraction(v), Fraction(-1))]) for u, v in ((1, 0), (-1, 0), (0, 1), (0, -1)))


def has_kind(scene, kind):
    return any(row[0] == kind for row in rows_of(scene))


def moment_of(value):
    return number_of(value, "t")


def some_places(chance, many):
    for _ in range(many):
        wide = chance.choice([4, 4, 40])
        yield tuple(pair_of(Fraction(chance.randint(-4 * wide, 4 * wide), chance.choice([1, 2, 4, 3]))) for _ in range(2))


class Told(unittest.TestCase):
    def check(self, scene):
        told = candidates(scene)
        self.assertIsInstance(told, tuple)
        self.assertEqual(candidates(scene=scene), told)
        names = rows_of(scene)
        for rows, value in told:
            self.assertTrue(is_point(value))
            self.assertEqual({states_at(scene, value)[index] for index in rows} - {"tight"}, set())
        many = len(names) if scene[1] else len(names) + 1
        self.assertLessEqual(len(told), many + many * (many - 1) // 2 + many * (many - 1) * (many - 2) // 3)
        return told

    def beside(self, scene):
        """Beside the candidates found by a second way; how many of each number of rows there are."""
        with localcontext() as context:
            context.prec = DIGITS
            told, found = self.check(scene), solved(scene)
            self.assertEqual([rows for rows, _ in told], [rows for rows, _ in found])
            for (_, value), (_, numbers) in zip(told, found):
                for one, other in zip(decimals_of(value), numbers):
                    self.assertEqual(sign_by_decimals(one - other, DIGITS), 0)
            right = [index for index, (_, value) in enumerate(told) if fits_by_decimals(scene, value)]
            self.assertEqual(list(fitting(scene)), right)
            self.assertIsInstance(fitting(scene), tuple)
            self.assertEqual(fitting(scene=scene), fitting(scene))
            self.assertIs(fits(scene), len(right) > 0)
            self.assertIs(fits(scene=scene), fits(scene))
        return told

    def points(self, scene, told):
        """Just these rows and points, told as whole numbers, Fractions and pairs of these with one root."""
        found = self.beside(scene)
        self.assertEqual([rows for rows, _ in found], [rows for rows, _ in told])
        for (_, value), (_, numbers) in zip(found, told):
            self.assertEqual(ordered(value, point(*numbers)), 0, (value, numbers))

    def test_by_one(self):
        scene = scene_of([("b", 1, 2)], [("b", Fraction(1, 2), 5)], [])
        self.points(scene, [((0,), (1, 2, 5)), ((1,), (1, 2, Fraction(1, 2)))])
        scene = scene_of([("b", 1, 2)], [("b", None, 5), ("b", -3, None), ("b", 7, 7)], [])
        self.points(scene, [((0,), (1, 2, 5)), ((1,), (1, 2, -3)), ((2,), (1, 2, 7)), ((3,), (1, 2, 7))])

    def test_two_stations(self):
        a, b = ("a", 0, 0), ("b", 6, 8)
        for high, told in [
            (0, (3, 4, -5)), (5, (Fraction(3, 2), 2, Fraction(-5, 2))), (2, (Fraction(12, 5), Fraction(16, 5), -4)),
            (-5, (Fraction(9, 2), 6, Fraction(-15, 2))), (10, (0, 0, 0)), (-10, (6, 8, -10)),
        ]:
            tips = [((0,), (0, 0, 0)), ((1,), (6, 8, high))]
            self.points(scene_of([a, b], [("a", None, 0), ("b", None, high)], []), [*tips, ((0, 1), told)])
            self.points(scene_of([a, b], [("a", 0, None), ("b", None, high)], []), [*tips, ((0, 1), told)])
            self.points(scene_of([b, a], [("a", 0, None), ("b", high, None)], []), [*tips, ((0, 1), told)])
        for high in (10 + LESS, -10 - LESS, 11, 10 ** 300):
            self.points(scene_of([a, b], [("a", None, 0), ("b", None, high)], []), [((0,), (0, 0, 0)), ((1,), (6, 8, high))])
        # Just as far apart as both moments let: root(2), beside fractions next to it.
        for many in (10, 60):
            p, q = pell(many)
            scene = scene_of([("a", 0, 0), ("b", q, q)], [("a", None, 0), ("b", p, None)], [])
            self.assertEqual(len(candidates(scene)), 3 if p * p <= 2 * q * q else 2)
        scene = scene_of([("a", 0, 0), ("b", 1, 1)], [("a", None, 0), ("b", None, 1)], [])
        share = (Fraction(1, 2), Fraction(-1, 4))
        self.points(scene, [((0,), (0, 0, 0)), ((1,), (1, 1, 1)), ((0, 1), (share, share, (Fraction(1, 2), Fraction(-1, 2)), 2))])

    def test_one_station_tells_none_by_two(self):
        scene = scene_of([("a", 0, 0), ("b", 1, 0)], [("a", 1, 1), ("a", 0, 2)], [])
        self.assertEqual([rows for rows, _ in self.beside(scene)], [(0,), (1,), (2,), (3,)])

    def test_a_station_and_a_side(self):
        scene = scene_of([("a", 1, 2)], [("a", 0, 5)], [(3, 4, 36), (1, 0, 1), (1, 1, 0)])
        self.points((scene[0], scene[1], scene[2][:1]), [
            ((0,), (1, 2, 5)), ((1,), (1, 2, 0)), ((0, 2), (4, 6, 0)), ((1, 2), (4, 6, -5))])
        self.points((scene[0], scene[1], scene[2][1:2]), [
            ((0,), (1, 2, 5)), ((1,), (1, 2, 0)), ((0, 2), (1, 2, 5)), ((1, 2), (1, 2, 0))])
        self.points((scene[0], scene[1], scene[2][2:]), [
            ((0,), (1, 2, 5)), ((1,), (1, 2, 0)), ((0, 2), (Fraction(-1, 2), Fraction(1, 2), (5, Fraction(-3, 2)), 2)),
            ((1, 2), (Fraction(-1, 2), Fraction(1, 2), (0, Fraction(-3, 2)), 2))])

    def three(self, scene, *told):
        """The candidates by three rows."""
        found = [row for row in self.beside(scene) if len(row[0]) == 3]
        self.assertEqual([rows for rows, _ in found], [rows for rows, _ in told])
        for (_, value), (_, numbers) in zip(found, told):
            self.assertEqual(ordered(value, point(*numbers)), 0, (value, numbers))

    def test_three_stations(self):
        places = [("a", 0, 0), ("b", 6, 0), ("c", 0, 8)]
        # (3, 4) at 0, and at 10, above each moment.
        self.three(scene_of(places, [("a", None, 5), ("b", None, 5), ("c", None, 5)], []), ((0, 1, 2), (3, 4, 0)))
        self.three(scene_of(places, [("a", 5, None), ("b", 5, None), ("c", None, 5)], []), ((0, 1, 2), (3, 4, 0)))
        # The squares have no root, then only some with t above 5.
        self.three(scene_of(places, [("a", None, 5), ("b", None, 5), ("c", None, 14)], []))
        self.three(scene_of(places, [("a", None, 5), ("b", None, 5), ("c", None, 40)], []))
        # 8 x - 6 t = 7 = 8 y - 6 t, t t = x x + y y: 4 t t + 84 t + 49 is 0.
        far, near = [((-7, Fraction(3 * way, 4)), (-7, Fraction(3 * way, 4)), (Fraction(-21, 2), way), 98) for way in (-1, 1)]
        two = [("a", 0, 0), ("b", 4, 0), ("c", 0, 4)]
        self.three(scene_of(two, [("a", None, 0), ("b", None, 3), ("c", None, 3)], []), ((0, 1, 2), far), ((0, 1, 2), near))
        self.three(scene_of(two, [("c", 3, None), ("b", None, 3), ("a", None, 0)], []), ((0, 1, 2), far), ((0, 1, 2), near))
        level = scene_of([("a", 0, 0), ("b", 2, 0), ("c", 0, 2)], [("a", None, 0), ("b", None, 0), ("c", None, 0)], [])
        self.three(level, ((0, 1, 2), (1, 1, (0, -1), 2)))

    def test_one_root(self):
        # t is - 9 / 5 less 4 y / 5 and t t is 9 and y y: a line that touches the cone at (3, 4), - 5.
        scene = scene_of([("a", 0, 0), ("b", 9, -4)], [("a", None, 0), ("b", None, 5)], [(1, 0, 3)])
        self.three(scene, ((0, 1, 2), (3, 4, -5)))
        # Two sides through the station: t t is 0.
        scene = scene_of([("a", 1, 2)], [("a", None, 3)], [(1, 0, 1), (0, 1, 2)])
        self.three(scene, ((0, 1, 2), (1, 2, 3)))
        # The example of the document: - 9 (t - 9)^2, and 9 is above 4.
        places = [("west", 0, 0), ("east", 6, 0), ("north", 3, 4)]
        self.three(scene_of(places, [("west", 2, 4), ("east", 2, 4), ("north", 9, None)], []))

    def test_a_side_and_two_rows(self):
        line = [("a", 0, 0), ("b", 8, 0)]
        self.three(scene_of(line, [("a", None, 0), ("b", None, 0)], [(0, 1, 0)]), ((0, 1, 2), (4, 0, -4)))
        self.three(scene_of(line, [("a", None, 0), ("b", None, 0)], [(0, 1, 3)]), ((0, 1, 2), (4, 3, -5)))
        # Two sides and a row: the place where their lines meet.
        self.three(scene_of([("a", 0, 0)], [("a", None, 0)], [(1, 0, 3), (0, 1, 4)]), ((0, 1, 2), (3, 4, -5)))
        self.three(scene_of([("a", 0, 0)], [("a", 0, 2)], [(1, 0, 1), (1, 1, 2)]),
                   ((0, 2, 3), (1, 1, (2, -1), 2)), ((1, 2, 3), (1, 1, (0, -1), 2)))

    def test_t_above_a_moment(self):
        # Of one station at 5 and at 3: the left side is t alone, and t is 4, above 3.
        self.three(scene_of([("a", 0, 0), ("b", 6, 0)], [("a", 3, 5), ("b", None, 7)], []))
        self.three(scene_of([("a", 0, 0)], [("a", 3, 5)], [(1, 0, 1)]))
        # t is - 1 / 3, and the line of the side is farther away, by the root of 1 / 8: no root, if barely so.
        self.three(scene_of([("a", 0, 0)], [("a", Fraction(-2, 3), 0)], [(2, 2, 1)]))
        # (3, 4) at 0 is 5 from c, too, but so it is heard at 5, not at - 5, where the squares are alike.
        self.three(scene_of([("a", 0, 0), ("b", 6, 0), ("c", 0, 8)], [("a", None, 5), ("b", None, 5), ("c", None, -5)], []))

    def test_left_sides_that_are_multiples(self):
        line = [("a", 0, 0), ("b", 2, 0), ("c", 6, 0)]
        for highs in ((5, 5, 5), (0, 1, 3), (0, 2, 6), (4, 4, 4)):
            self.three(scene_of(line, [("a", None, highs[0]), ("b", None, highs[1]), ("c", None, highs[2])], []))
        # One station twice at one moment; a line told twice; lines that never meet.
        self.three(scene_of(line, [("a", 0, 0)], [(1, 0, 1)]))
        self.three(scene_of(line, [("a", 0, 0), ("b", None, 1)], []))
        self.three(scene_of(line, [("a", None, 0)], [(1, 2, 1), (-2, -4, -2)]))
        self.three(scene_of(line, [("a", None, 0)], [(1, 0, 1), (-2, 0, 5)]))

    def test_degree_below_two(self):
        # 6 x + 8 y - 8 t = 9 and x = 1: along t = y - 3 / 8 the squares are gone.
        scene = scene_of([("a", 0, 0), ("b", 3, 4)], [("a", None, 0), ("b", None, 4)], [(1, 0, 1)])
        self.three(scene, ((0, 1, 2), (1, Fraction(-55, 48), Fraction(-73, 48))))
        # The same with - 4: t is up to 0, but not up to - 4.
        scene = scene_of([("a", 0, 0), ("b", 3, 4)], [("a", None, 0), ("b", None, -4)], [(1, 0, 1)])
        self.three(scene)
        # 8 y - 8 t = 0: with x = 1 it is - 1 throughout, with x = 0 it is 0 throughout.
        for limit in (1, 0):
            self.three(scene_of([("a", 0, 0), ("b", 0, 4)], [("a", None, 0), ("b", None, 4)], [(1, 0, limit)]))

    def test_order_of_two(self):
        half = Fraction(3, 2)
        for u, v, limit in ((1, 0, 2), (-1, 0, -2), (3, 0, 6)):
            # Alike t and x: y tells which one is first.
            scene = scene_of([("a", 0, 0), ("b", 2, 0)], [("a", None, 0), ("b", None, -1)], [(u, v, limit)])
            self.three(scene, ((0, 1, 2), (2, -half, -half - 1)), ((0, 1, 2), (2, half, -half - 1)))
            scene = scene_of([("a", 0, 0), ("b", 2, 0)], [("b", -1, None), ("a", 0, None)], [(u, v, limit)])
            self.three(scene, ((0, 1, 2), (2, -half, -half - 1)), ((0, 1, 2), (2, half, -half - 1)))
            # Alike t: x does.
            scene = scene_of([("a", 0, 0), ("b", 0, 2)], [("a", None, 0), ("b", None, -1)], [(v, u, limit)])
            self.three(scene, ((0, 1, 2), (-half, 2, -half - 1)), ((0, 1, 2), (half, 2, -half - 1)))
        # Whatever x and y are, t does.
        for x, y in ((4, 3), (-4, 3), (4, -3), (-4, -3)):
            scene = scene_of([("a", 0, 0), ("b", x, 0), ("c", 0, y)], [("a", None, 0), ("b", None, 3), ("c", None, 2)], [])
            found = [value for rows, value in self.beside(scene) if len(rows) == 3]
            self.assertEqual(len(found), 2)
            self.assertEqual(compared(moment_of(found[0]), moment_of(found[1])), -1)

    def test_none_without_a_row_that_is_high_or_low(self):
        scene = scene_of([("a", 0, 0)], [("a", None, 5)], [(1, 0, 1), (0, 1, 1), (1, 1, 1)])
        self.assertEqual([rows for rows, _ in self.beside(scene)], [
            (0,), (0, 1), (0, 2), (0, 3), (0, 1, 2), (0, 1, 3), (0, 2, 3)])

    def test_beside_a_second_way(self):
        many = {1: 0, 2: 0, 3: 0}
        for scene in some_scenes(1, 130):
            told = self.beside(scene)
            for rows, _ in told:
                if scene[1]:
                    many[len(rows)] += 1
            twice = [rows for (rows, _), (other, _) in zip(told, told[1:]) if rows == other]
            many["two"] = many.get("two", 0) + len(twice)
        self.assertGreater(min(many.values()), 100)

    def test_degenerate(self):
        for scene in DEGENERATE:
            self.beside(scene)

    def test_great_and_small(self):
        great = ((3, 5), (-4, 5), False, ((10 ** 150, 1), (1, 10 ** 150)), (10 ** 200, 7), (10 ** 250, 3))
        chance = random.Random(2)
        for scene in some_scenes(3, 60, 3):
            if not scene[1]:
                continue
            far = led_scene(great, scene)
            told, led = self.check(scene), self.check(far)
            self.same_led(great, told, led)
            self.assertEqual(len(fitting(far)), len(fitting(scene)))
            self.assertEqual(fits(far), fits(scene))
            # One moment so late that no other reading's HIGH is near.
            index = chance.randrange(len(scene[1]))
            late = (*scene[1][:index], (scene[1][index][0], (10 ** 300, 3), None), *scene[1][index + 1:])
            late = (scene[0], late, scene[2])
            self.check(late)
            self.assertEqual(fits(late), not has_kind(late, "high") and can_be(limits_of(late)))

    def same_led(self, lead, told, led):
        """Led candidates are told by the same rows; of two by the same three rows either may come first."""
        self.assertEqual([rows for rows, _ in told], [rows for rows, _ in led])
        for rows in {rows for rows, _ in told}:
            ahead = [led_point(lead, value) for other, value in told if other == rows]
            after = [value for other, value in led if other == rows]
            for value in ahead:
                self.assertTrue(any(ordered(value, other) == 0 for other in after))
            for value in after:
                self.assertTrue(any(ordered(value, other) == 0 for other in ahead))

    def test_led(self):
        chance, leads = random.Random(4), list(some_leads())
        for scene in [*some_scenes(5, 60), *DEGENERATE]:
            lead = chance.choice(leads)
            if scene[1]:
                self.same_led(lead, candidates(scene), candidates(led_scene(lead, scene)))

    def test_rows_taken_out(self):
        chance = random.Random(6)
        for scene in [*some_scenes(7, 120), *DEGENERATE]:
            if not scene[1]:
                continue
            readings = sorted(chance.sample(range(len(scene[1])), chance.randint(1, len(scene[1]))))
            sides = sorted(chance.sample(range(len(scene[2])), chance.randint(0, len(scene[2]))))
            left = (scene[0], tuple(scene[1][index] for index in readings), tuple(scene[2][index] for index in sides))
            kept = [index for index, (kind, at) in enumerate(rows_of(scene)) if at in (sides if kind == "side" else readings)]
            told = [(tuple(kept.index(index) for index in rows), value) for rows, value in candidates(scene) if set(rows) <= set(kept)]
            found = candidates(left)
            self.assertEqual([rows for rows, _ in found], [rows for rows, _ in told])
            for (_, value), (_, other) in zip(found, told):
                self.assertEqual(ordered(value, other), 0)

    def test_without_readings(self):
        for scene in [*some_scenes(8, 60), *DEGENERATE]:
            bare = (scene[0], (), scene[2])
            more = (scene[0], ((scene[0][0][0], NIL, None),), scene[2])
            told, found = self.beside(bare), candidates(more)
            self.assertEqual([rows for rows, _ in told], [tuple(index - 1 for index in rows[1:]) for rows, _ in found])
            self.assertEqual([value for _, value in told], [value for _, value in found])
            self.assertEqual(told[0][0], ())
            self.assertEqual(ordered(told[0][1], (*[(part, NIL) for part in scene[0][0][1:]], (NIL, NIL), NIL)), 0)
        scene = scene_of([("b", 1, 2), ("a", 0, 0)], [], [(3, 4, 36), (0, 1, 2)])
        self.points(scene, [((), (1, 2, 0)), ((0,), (4, 6, -5)), ((1,), (1, 2, 0)), ((0, 1), (Fraction(28, 3), 2, Fraction(-25, 3)))])
        self.assertEqual(fitting(scene), (0, 2, 3))

    def test_refusals(self):
        for function in (candidates, fitting):
            refusals(self, function, [("scene", SCENE, InvalidScene, WRONG_SCENES)])


class Fits(unittest.TestCase):
    def sampled(self, scene, chance, many=30):
        """Nothing that fits at some places is later than the latest moment, or earlier than the earliest one."""
        last, first = latest(scene), earliest(scene)
        for place in some_places(chance, many):
            told = moments_at(scene, place)
            if told is None:
                continue
            self.assertIs(fits(scene), True)
            if last is not None:
                self.assertLessEqual(compared(told[1], moment_of(last)), 0)
            if first is not None:
                self.assertGreaterEqual(compared(told[0], moment_of(first)), 0)
            if told[1] is None:
                self.assertIsNone(last)

    def check(self, scene):
        """What latest and earliest tell is a candidate's point that fits, and no other one that fits is beyond it."""
        last, first = latest(scene), earliest(scene)
        self.assertEqual(latest(scene=scene), last)
        self.assertEqual(earliest(scene=scene), first)
        told = candidates(scene)
        right = [told[index][1] for index in fitting(scene)]
        self.assertEqual(right, [value for _, value in told if is_let(scene, value)])
        self.assertIs(fits(scene), bool(right))
        self.assertEqual(last is not None, bool(right) and has_kind(scene, "high"))
        self.assertEqual(first is not None, bool(right) and has_kind(scene, "low") and do_bound(scene))
        for value, way in ((last, 1), (first, -1)):
            if value is not None:
                self.assertTrue(is_point(value))
                self.assertTrue(is_let(scene, value))
                self.assertEqual(max(way * compared(moment_of(other), moment_of(value)) for other in right), 0)

    def test_by_hand(self):
        four = [("a", 0, 0), ("b", 6, 0), ("c", 0, 8), ("d", 6, 8)]
        one = scene_of(four, [("a", 5, 5), ("b", 5, 5), ("c", 5, 5)], [])
        self.assertEqual(ordered(latest(one), point(3, 4, 0)), 0)
        self.assertIsNone(earliest(one))
        self.assertIs(fits(one), True)
        self.assertIs(fits(scene_of(four, [("a", 5, 5), ("b", 5, 5), ("c", 5, 5), ("d", 9, 9)], [])), False)
        self.assertIs(fits(scene_of(four, [("a", 5, 5), ("b", 5, 5), ("c", 5, 5), ("d", 5, 5)], [(1, 0, 3), (0, -1, -4)])), True)
        self.assertIs(fits(scene_of(four, [("a", 5, 5), ("b", 5, 5), ("c", 5, 5)], [(1, 0, 3 - LESS)])), False)
        self.assertIs(fits(scene_of(four, [("a", 5, 5), ("b", 5, 5), ("c", 5, 5 + LESS)], [(1, 0, 3)])), True)
        for value in (latest, earliest):
            self.assertIsNone(value(scene_of(four, [("a", 5, 5), ("b", 5, 5), ("c", 5, 5), ("d", 9, 9)], BOX)))
        # A lone HIGH: latest at its station; within a side, at the place of its line that is nearest.
        self.assertEqual(ordered(latest(scene_of(four, [("b", None, 7)], [])), point(6, 0, 7)), 0)
        self.assertEqual(ordered(latest(scene_of(four, [("b", 6, 7)], [(1, 0, 2)])), point(2, 0, 3)), 0)
        self.assertEqual(ordered(latest(scene_of(four, [("a", None, 7)], [(1, 1, -2)])), point(-1, -1, (7, -1), 2)), 0)
        # Two: between both stations. Three with a box: at a corner.
        self.assertEqual(ordered(latest(scene_of(four, [("a", None, 5), ("b", None, 7)], [])), point(2, 0, 3)), 0)
        self.assertEqual(ordered(latest(scene_of(four, [("d", None, 5)], BOX)), point(4, 4, (5, -1), 20)), 0)
        self.assertEqual(compared(moment_of(earliest(scene_of(four, [("a", -7, None)], BOX))), ((-7, 1), (-1, 1), (32, 1))), 0)

    def test_earliest_by_one_and_by_three(self):
        # The one place let is the station's.
        lone = scene_of([("a", 0, 0)], [("a", 3, 5)], [(1, 0, 0), (-1, 0, 0), (0, 1, 0), (0, -1, 0)])
        self.assertEqual(ordered(earliest(lone), point(0, 0, 3)), 0)
        self.assertEqual(ordered(latest(lone), point(0, 0, 5)), 0)
        triangle = scene_of([("a", 0, 0)], [("a", 3, None)], [(-1, 0, 0), (0, -1, 0), (4, 3, 12)])
        self.assertEqual(ordered(earliest(triangle), point(0, 4, -1)), 0)
        self.assertIsNone(latest(triangle))

    def test_sides_that_do_not_bound(self):
        row = [("a", 3, 5)]
        for sides, bound in [
            ([], False), ([(1, 0, 1)], False), ([(1, 0, 1), (-1, 0, 1)], False), ([(1, 0, 1), (0, 1, 1)], False),
            ([(1, 0, 1), (-1, 0, 1), (0, 1, 1)], False), (BOX, True), ([(1, 0, 1), (0, 1, 1), (-1, -1, 1)], True),
            ([(1, 0, 1), (0, 1, 1), (-1, 0, 1), (-1, 1, 1)], False), ([(1, 0, 0), (-1, 0, 0), (0, 1, 0), (0, -1, 0)], True),
            ([(1, 1, 1), (-1, 1, 1), (0, -3, 1)], True), ([(1, 1, 1), (-1, 1, 1), (0, 1, 1)], False), ([(2, 1, 1), (-2, -1, 1), (1, 2, 4)], False),
            ([(2, 1, 1), (-2, -1, 1), (1, 2, 4), (-1, -1, 4)], True), ([(1, 0, 1), (1, 0, 2), (2, 0, 3)], False),
        ]:
            scene = scene_of([("a", 0, 0)], row, sides)
            self.assertEqual(earliest(scene) is not None, bound, sides)
            self.check(scene)
            self.assertIsNone(earliest(scene_of([("a", 0, 0)], [("a", None, 5)], sides)))
            self.assertIsNone(earliest(scene_of([("a", 0, 0)], [], sides)))
            self.assertIsNone(earliest(scene_of([("a", 0, 0)], row, [*sides, (0, 1, -9), (0, -1, 8)])))
        # Sides that let no place: nothing fits, whatever they bound.
        for sides in ([(1, 0, 0), (-1, 0, -1)], [*BOX, (1, 0, -5)]):
            for readings in (row, [("a", None, 5)], [("a", 3, None)], []):
                scene = scene_of([("a", 0, 0)], readings, sides)
                self.assertIs(fits(scene), False)
                self.assertEqual(fitting(scene), ())
                self.assertIsNone(latest(scene))
                self.assertIsNone(earliest(scene))

    def test_what_one_shake_allows(self):
        """Heard as from one place at one moment, with any errors that let it be so: something fits, so late at least."""
        chance, steps = random.Random(11), [(3, 4), (-4, 3), (0, 5), (5, -12), (-8, -6), (-15, 8), (0, 0), (-3, -4), (12, 9), (7, -24)]
        for _ in range(60):
            x, y, t = [Fraction(chance.randint(-9, 9), chance.choice([1, 2, 5])) for _ in range(3)]
            stations, readings = [], []
            for name, (east, north) in zip("abcdef", chance.sample(steps, chance.randint(1, 6))):
                stations.append((name, x + east, y + north))
                heard = t + Fraction(round((east ** 2 + north ** 2) ** 0.5))
                low, high = [chance.choice([0, 0, 1, Fraction(1, 10 ** 30)]) for _ in range(2)]
                readings.append((name, *chance.choice([(heard - low, heard + high)] * 3 + [(heard - low, None), (None, heard + high)])))
            sides = []
            for u, v in chance.sample([(1, 0), (0, 1), (-1, 2), (-3, -1)], chance.randint(0, 4)):
                sides.append((u, v, u * x + v * y + chance.choice([0, 0, 1])))
            scene = scene_of(stations, readings, sides)
            self.assertTrue(is_let(scene, point(x, y, t)))
            self.check(scene)
            self.assertIs(fits(scene), True)
            if latest(scene) is not None:
                self.assertGreaterEqual(compared(moment_of(latest(scene)), (pair_of(t), NIL, NIL)), 0)
            if earliest(scene) is not None:
                self.assertLessEqual(compared(moment_of(earliest(scene)), (pair_of(t), NIL, NIL)), 0)
            # One more station, 5 away, hears it later than the first one by more than this.
            name, low, high = readings[0]
            place = (stations[0][1] + 3, stations[0][2] + 4)
            if high is not None and place not in [row[1:] for row in stations]:
                more = scene_of([*stations, ("z", *place)], [*readings, ("z", high + 5 + LESS, None)], [])
                self.assertIs(fits(more), False)
                self.check(more)

    def test_nothing_is_later_or_earlier(self):
        chance = random.Random(12)
        for scene in [*some_scenes(13, 250), *DEGENERATE]:
            self.check(scene)
            self.sampled(scene, chance)
        for scene in some_scenes(14, 60):
            bound = (scene[0], scene[1], scene_of([], [], BOX)[2])
            self.check(bound)
            self.sampled(bound, chance)

    def test_near_to_the_latest_moment(self):
        """Places close around the latest one let nothing later."""
        for scene in some_scenes(15, 80):
            last = latest(scene)
            if last is None:
                continue
            x, y = [Fraction(floor_at(number_of(last, which), 10 ** 30), 10 ** 30) for which in "xy"]
            for many in (1, 10, 1000, 10 ** 9):
                for east, north in ((1, 0), (-1, 0), (0, 1), (0, -1), (1, 2), (-2, 1), (-1, -2), (2, -1), (0, 0)):
                    told = moments_at(scene, (pair_of(x + Fraction(east, many)), pair_of(y + Fraction(north, many))))
                    if told is not None:
                        self.assertLessEqual(compared(told[1], moment_of(last)), 0)

    def test_without_a_high_row(self):
        """Without one, without a low one, without readings: something fits exactly if some place is within all sides."""
        seen = {True: 0, False: 0}
        for scene in [*some_scenes(16, 250), *DEGENERATE]:
            is_let_somewhere = can_be(limits_of(scene))
            seen[is_let_somewhere] += 1
            for readings in ([(name, None, high) for name, low, high in scene[1] if high is not None],
                             [(name, low, None) for name, low, high in scene[1] if low is not None], []):
                part = (scene[0], tuple(readings), scene[2])
                self.assertIs(fits(part), is_let_somewhere)
                self.check(part)
        self.assertGreater(min(seen.values()), 9)

    def test_two_readings(self):
        """They fit exactly if neither LOW is above the other HIGH by more than the distance, without sides."""
        chance, seen = random.Random(17), {True: 0, False: 0}
        for _ in range(250):
            places = [(chance.randint(-3, 3), chance.randint(-3, 3)) for _ in range(2)]
            if places[0] == places[1]:
                stations, names = [("a", *places[0])], "aa"
            else:
                stations, names = [("a", *places[0]), ("b", *places[1])], "ab"
            ends = [(low, low + chance.choice([0, 1, 2])) for low in (chance.randint(-6, 6) for _ in range(2))]
            square = (places[0][0] - places[1][0]) ** 2 + (places[0][1] - places[1][1]) ** 2
            gap = max(ends[0][0] - ends[1][1], ends[1][0] - ends[0][1])
            right = gap <= 0 or gap * gap <= square
            seen[right] += 1
            self.assertIs(fits(scene_of(stations, [(name, *row) for name, row in zip(names, ends)], [])), right)
        self.assertGreater(min(seen.values()), 50)
        for near, right in ((0, True), (-LESS, True), (LESS, False)):
            for low, high in ((5, 0), (0, -5), (100, 95)):
                two = [("a", 0, 0), ("b", 3, 4)]
                self.assertIs(fits(scene_of(two, [("a", low + near, None), ("b", None, high)], [])), right)
                self.assertIs(fits(scene_of(two, [("a", None, high), ("b", low, low)], [])), True)
                self.assertIs(fits(scene_of(two, [("b", low + near, 900), ("a", -900, high)], [])), right)
                self.assertIs(fits(scene_of(two, [("b", low - 5 + near, 900), ("b", -900, high)], [])), right)
        for many in (10, 60):
            p, q = pell(many)
            two = scene_of([("a", 0, 0), ("b", q, q)], [("a", p, None), ("b", None, 0)], [])
            self.assertIs(fits(two), p * p <= 2 * q * q)

    def test_one_reading_is_never_wrong(self):
        for scene in some_scenes(18, 80):
            for reading in scene[1]:
                self.assertIs(fits((scene[0], (reading,), scene[2])), can_be(limits_of(scene)))

    def test_led(self):
        chance, leads = random.Random(19), list(some_leads())
        for scene in [*some_scenes(20, 120), *DEGENERATE]:
            lead = chance.choice(leads)
            led = led_scene(lead, scene)
            self.assertIs(fits(led), fits(scene))
            if scene[1]:
                self.assertEqual(len(fitting(led)), len(fitting(scene)))
            for tells in (latest, earliest):
                value, after = tells(scene), tells(led)
                self.assertEqual(value is None, after is None)
                if value is not None:
                    self.assertEqual(compared(moment_of(led_point(lead, value)), moment_of(after)), 0)
                    self.assertTrue(is_let(led, led_point(lead, value)))

    def test_equal_calls_return_equal_results(self):
        for scene in DEGENERATE:
            for function in (candidates, fitting, fits, latest, earliest):
                self.assertEqual(function(scene), function(scene))

    def test_refusals(self):
        for function in (fits, latest, earliest):
            refusals(self, function, [("scene", SCENE, InvalidScene, WRONG_SCENES)])


if __name__ == "__main__":
    unittest.main()
