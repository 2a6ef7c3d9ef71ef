"""Points: what they are, their order, when their shakes are heard, and which sides they lie in."""

import functools
import random
import unittest
from decimal import Decimal, localcontext
from fractions import Fraction

from helping import (NIL, ONE, WRONG_COUNTS, WRONG_FRACTIONS, WRONG_PLACES, WRONG_POINTS, WRONG_SIDES, WRONG_WORDS,
                     as_fraction, decimal_of, heard_decimal, pair_of, pell, point, refusals, sign_by_decimals, told_alike)
from latestshake.errors import InvalidCount, InvalidFraction, InvalidPoint, InvalidSide, InvalidWord
from latestshake.numbers import compared, floor_at, is_number
from latestshake.points import beyond, heard_figures, heard_floor, heard_sign, is_point, number_of, ordered


STILL = point(3, 4, 0)
SLANT = point((0, 1), 0, 1, 2)
POINT = ("point", SLANT, InvalidPoint, WRONG_POINTS)
OTHER = ("other", STILL, InvalidPoint, WRONG_POINTS)
EAST = ("east", (2, 3), InvalidFraction, WRONG_FRACTIONS)
NORTH = ("north", (-2, 3), InvalidFraction, WRONG_FRACTIONS)
MOMENT = ("moment", (5, 7), InvalidFraction, WRONG_FRACTIONS)
SIDE = ("side", (ONE, NIL, (-1, 3)), InvalidSide, WRONG_SIDES)
WHICH = ("which", "t", InvalidWord, WRONG_WORDS)
MANY = ("many", 7, InvalidCount, WRONG_COUNTS)
PLACES = ("places", 3, InvalidCount, WRONG_PLACES)


def some_points(seed, many, size):
    chance = random.Random(seed)
    for _ in range(many):
        rows = [(Fraction(chance.randint(-size, size), chance.randint(1, 4)),
                 Fraction(chance.randint(-size, size), chance.randint(1, 4))) for _ in range(3)]
        yield point(*rows, Fraction(chance.randint(0, size), chance.randint(1, 4)))


def some_fractions(seed, many, size):
    chance = random.Random(seed)
    return [Fraction(chance.randint(-size, size), chance.randint(1, 4)) for _ in range(many)]


class Kinds(unittest.TestCase):
    def test_points(self):
        for value in [STILL, SLANT, point((1, 2), (3, -4), (-5, 6), 7), point((0, 1), (0, 1), (0, 1), 0),
                      point(10 ** 399, -10 ** 399, Fraction(1, 10 ** 399), 10 ** 399), point((1, 1), 0, 0, 4)]:
            self.assertIs(is_point(value), True, value)
            self.assertIs(is_point(value=value), True)

    def test_no_points(self):
        for value in WRONG_POINTS + [STILL[:3], STILL[1:], STILL + (NIL,), list(STILL), None]:
            self.assertIs(is_point(value), False)
            self.assertIs(is_point(value=value), False)

    def test_number_of(self):
        value = point((1, 2), (3, -4), (-5, 6), 7)
        told = [number_of(value, which) for which in ("x", "y", "t")]
        self.assertEqual(told, [((1, 1), (2, 1), (7, 1)), ((3, 1), (-4, 1), (7, 1)), ((-5, 1), (6, 1), (7, 1))])
        self.assertTrue(all(is_number(row) for row in told))
        self.assertEqual(number_of(which="y", point=STILL), ((4, 1), NIL, NIL))

    def test_refusals(self):
        refusals(self, number_of, [POINT, WHICH])


class Order(unittest.TestCase):
    def check(self, low, high, order):
        self.assertEqual(ordered(low, high), order, (low, high))
        self.assertEqual(ordered(high, low), -order)
        self.assertEqual(ordered(other=high, point=low), order)

    def test_by_t_then_x_then_y(self):
        self.check(point(9, 9, 0), point(0, 0, 1), -1)
        self.check(point(0, 9, 0), point(1, 0, 0), -1)
        self.check(point(0, 0, 0), point(0, 1, 0), -1)
        self.check(point(0, 0, 0), point(0, 0, 0), 0)
        self.check(point(1, 0, 0), point(0, 1, 0), 1)
        self.check(point((9, 1), (9, 1), (0, 1), 2), point((0, 1), (0, 1), (0, 1), 3), -1)
        self.check(point((0, 1), 9, 1, 2), point((0, 1), 0, 1, 3), -1)
        self.check(point((0, -1), 0, 1, 2), point((0, -1), 0, 1, 3), 1)
        self.check(point(0, (0, 1), 1, 2), point(0, (0, 1), 1, 3), -1)
        self.check(point(2, 0, (0, 1), 2), point(1, 5, (0, 1), 2), 1)

    def test_unlike_quadruples_of_alike_numbers(self):
        self.check(point((0, 1), 0, 1, 2), point((0, 2), 0, 1, Fraction(1, 2)), 0)
        self.check(point((1, 2), (0, 1), (1, -1), Fraction(9, 4)), point(4, Fraction(3, 2), Fraction(-1, 2)), 0)
        self.check(point(0, 0, (0, 1), 8), point(0, 0, (0, 2), 2), 0)
        self.check(point(1, 0, (0, 1), 8), point(0, 1, (0, 2), 2), 1)
        self.check(point(0, 0, (0, 1), 8), point(0, 1, (0, 2), 2), -1)
        self.check(point(3, (0, 1), (0, 1), 8), point(3, (1, 2), (0, 2), 2), -1)
        for value in some_points(1, 60, 9):
            self.check(value, told_alike(value, Fraction(2, 3)), 0)

    def test_one_order(self):
        chance = random.Random(2)
        rows = []
        for _ in range(40):
            told = [(chance.randint(0, 1), chance.randint(-1, 1)) for _ in range(3)]
            rows.append(point(*told, chance.choice([0, 1, 2, 3, 4])))
        rows += [told_alike(row, Fraction(3, 5)) for row in rows[:10]]
        rows = sorted(rows, key=functools.cmp_to_key(ordered))
        for low in range(len(rows)):
            for high in range(low, len(rows)):
                self.assertLessEqual(ordered(rows[low], rows[high]), 0)
                self.assertEqual(ordered(rows[high], rows[low]), -ordered(rows[low], rows[high]))
                by_words = [compared(number_of(rows[low], which), number_of(rows[high], which)) for which in "txy"]
                self.assertEqual(ordered(rows[low], rows[high]), next((row for row in by_words if row), 0))

    def test_near_and_great(self):
        p, q = pell(300)
        sign = 1 if p * p > 2 * q * q else -1
        self.check(point(0, 0, Fraction(p, q)), point(0, 0, (0, 1), 2), sign)
        self.check(point(p, 0, 1), point((0, q), 0, 1, 2), sign)
        self.check(point(5, p, 1), point((5, 0), (0, q), 1, 2), sign)

    def test_refusals(self):
        refusals(self, ordered, [POINT, OTHER])


class HeardSign(unittest.TestCase):
    def check(self, value, east, north, moment, sign):
        arguments = [pair_of(fraction) for fraction in (east, north, moment)]
        self.assertEqual(heard_sign(value, *arguments), sign, (value, east, north, moment))
        named = dict(zip(("east", "north", "moment"), arguments))
        self.assertEqual(heard_sign(point=value, **named), sign)

    def test_without_a_root(self):
        for moment, sign in ((5, 0), (4, 1), (6, -1), (-1, 1), (0, 1), (-5, 1), (-6, 1), (Fraction(49, 10), 1),
                             (Fraction(51, 10), -1)):
            self.check(STILL, 0, 0, moment, sign)
            self.check(point(3, 4, 2), 0, 0, moment + 2, sign)
            self.check(point(3, 4, -7), 6, 0, moment - 7, sign)
            self.check(point(0, 0, 0), 3, -4, moment, sign)

    def test_at_its_own_place(self):
        for value, east, north in ((STILL, 3, 4), (point((1, 2), (3, -1), 0, Fraction(9, 4)), 4, Fraction(3, 2))):
            for moment, sign in ((0, 0), (-1, 1), (1, -1), (Fraction(1, 10 ** 300), -1), (Fraction(-1, 10 ** 300), 1)):
                self.check(value, east, north, moment, sign)

    def test_moments_below_t(self):
        # The squares alone would tell a moment as far below T as the sound is heard above it.
        for moment in (-5, -6, -4, Fraction(-1, 1000)):
            self.check(STILL, 0, 0, moment, 1)
        self.check(SLANT, 0, 0, Fraction(-42, 100), 1)
        self.check(SLANT, 0, 0, -1, 1)
        self.check(point(0, 0, (0, 1), 2), 0, 0, 1, 1)
        self.check(point(0, 0, (0, 1), 2), 0, 0, 2, -1)

    def test_with_a_root(self):
        self.check(SLANT, 0, 0, 2, 1)
        self.check(SLANT, 0, 0, Fraction(2414, 1000), 1)
        self.check(SLANT, 0, 0, Fraction(2415, 1000), -1)
        # The place lies root(2) times root(2) away: heard at 2 and 1 together.
        slanted = point((0, 1), (0, 1), 1, 2)
        for moment, sign in ((3, 0), (Fraction(29, 10), 1), (Fraction(31, 10), -1), (-1, 1)):
            self.check(slanted, 0, 0, moment, sign)
        # 5 less root(52) and root(52) together are 5.
        for moment, sign in ((5, 0), (Fraction(49, 10), 1), (Fraction(51, 10), -1), (-9, 1)):
            self.check(point(0, 4, (5, -1), 52), 6, 0, moment, sign)

    def test_by_decimals(self):
        moments = some_fractions(3, 3000, 40)
        places = some_fractions(4, 6000, 9)
        for index, value in enumerate(some_points(5, 3000, 9)):
            east, north, moment = places[2 * index], places[2 * index + 1], moments[index]
            with localcontext() as context:
                context.prec = 300
                heard = heard_decimal(value, east, north) - Decimal(moment.numerator) / Decimal(moment.denominator)
            self.check(value, east, north, moment, sign_by_decimals(heard))

    def test_near_and_great(self):
        for many in (5, 50, 199):
            p, q = pell(many)
            sign = 1 if 2 * q * q > p * p else -1
            self.check(point((0, q), 0, 1, 2), 0, 0, p + 1, sign)
            self.check(point(q, q, -1), 0, 0, p - 1, sign)
            self.check(point(q, q, (0, 1), 3), 0, 0, p, 1)
            self.check(point(q, q, (0, -1), 3), 0, 0, p, -1)
            self.check(point(3 * p, 4 * p, Fraction(1, q)), 0, 0, 5 * p + Fraction(1, q), 0)
            self.check(point(3 * p, 4 * p, Fraction(1, q)), 0, 0, 5 * p, 1)

    def test_refusals(self):
        refusals(self, heard_sign, [POINT, EAST, NORTH, MOMENT])


class Beyond(unittest.TestCase):
    def check(self, value, side, sign):
        side = tuple(pair_of(fraction) for fraction in side)
        self.assertEqual(beyond(value, side), sign)
        self.assertEqual(beyond(side=side, point=value), sign)

    def test_by_hand(self):
        for side, sign in (((1, 1, 7), 0), ((1, 1, 6), 1), ((1, 1, 8), -1), ((-1, -1, -7), 0), ((-1, -1, -8), 1),
                           ((1, 0, 3), 0), ((1, 0, Fraction(5, 2)), 1), ((0, 1, 4), 0), ((0, -1, -4), 0),
                           ((Fraction(1, 3), Fraction(1, 4), 2), 0), ((Fraction(1, 3), Fraction(1, 4), 1), 1),
                           ((Fraction(1, 3), Fraction(-1, 4), Fraction(1, 7)), -1)):
            self.check(STILL, side, sign)
        for side, sign in (((1, 0, 1), 1), ((1, 0, 2), -1), ((-1, 0, -1), -1), ((0, 1, 0), 0), ((1, 5, Fraction(3, 2)), -1)):
            self.check(SLANT, side, sign)

    def test_whatever_the_moment(self):
        for moment in (-9, 0, 9, (0, 5), (1, -5)):
            self.check(point(3, 4, moment, 7), (1, 1, 7), 0)

    def test_by_decimals(self):
        rows = some_fractions(6, 3000, 5)
        for index, value in enumerate(some_points(7, 1000, 5)):
            u, v, c = rows[3 * index:3 * index + 3]
            if u or v:
                x, y = [[as_fraction(part) for part in pair] for pair in value[:2]]
                told = (pair_of(u * x[0] + v * y[0] - c), pair_of(u * x[1] + v * y[1]), value[3])
                self.check(value, (u, v, c), sign_by_decimals(decimal_of(told)))

    def test_near_and_great(self):
        p, q = pell(390)
        sign = 1 if 2 * q * q > p * p else -1
        self.check(point((0, 1), 0, 0, 2), (q, 0, p), sign)
        self.check(point(p, (0, q), 0, 2), (-1, 1, 0), sign)
        self.check(point(p, (p, q), 0, 2), (-1, 1, p), sign)

    def test_refusals(self):
        refusals(self, beyond, [POINT, SIDE])


class HeardFloor(unittest.TestCase):
    def check(self, value, east, north, many):
        """The floor is heard up to what is heard, the next whole number is not."""
        east, north = pair_of(east), pair_of(north)
        floor = heard_floor(value, east, north, many)
        self.assertIsInstance(floor, int)
        self.assertGreaterEqual(heard_sign(value, east, north, pair_of(Fraction(floor, many))), 0)
        self.assertEqual(heard_sign(value, east, north, pair_of(Fraction(floor + 1, many))), -1)
        self.assertEqual(heard_floor(many=many, north=north, east=east, point=value), floor)
        return floor

    def by_halving(self, value, east, north, many):
        """As the document finds it, from the floor of T on."""
        low = floor_at(number_of(value, "t"), many)
        step = 1
        while heard_sign(value, east, north, pair_of(Fraction(low + step, many))) >= 0:
            step *= 2
        high = low + step
        while high - low > 1:
            middle = (low + high) // 2
            if heard_sign(value, east, north, pair_of(Fraction(middle, many))) >= 0:
                low = middle
            else:
                high = middle
        return low

    def test_by_hand(self):
        for value, east, north, many, floor in (
            (STILL, 0, 0, 1, 5), (STILL, 0, 0, 10, 50), (STILL, 1, 0, 10, 44), (STILL, 1, 0, 1, 4), (STILL, 3, 4, 7, 0),
            (point(3, 4, -7), 0, 0, 1, -2), (point(3, 4, -7), 1, 0, 1, -3), (point(3, 4, -7), 1, 0, 10, -26),
            (point(3, 4, Fraction(-1, 3)), 3, 4, 1, -1), (point(3, 4, Fraction(1, 3)), 0, 0, 3, 16),
            (SLANT, 0, 0, 1, 2), (SLANT, 0, 0, 1000, 2414), (point((0, 1), (0, 1), 1, 2), 0, 0, 5, 15),
            (point(0, 4, (5, -1), 52), 6, 0, 9, 45), (point(0, 0, (0, -1), 2), 0, 0, 1, -2), (point(0, 0, -5), 0, 0, 3, -15),
            (point(Fraction(9, 10), 0, Fraction(9, 10)), 0, 0, 1, 1), (point(0, 0, (0, 1), 2), 1, 0, 1, 2),
        ):
            self.assertEqual(self.check(value, east, north, many), floor, (value, east, north, many))

    def test_by_decimals_and_halving(self):
        places = some_fractions(8, 800, 9)
        for index, value in enumerate(some_points(9, 400, 9)):
            east, north = places[2 * index], places[2 * index + 1]
            many = (1, 2, 10, 7 ** 30, 10 ** 40)[index % 5]
            floor = self.check(value, east, north, many)
            self.assertEqual(floor, self.by_halving(value, pair_of(east), pair_of(north), many))
            with localcontext() as context:
                context.prec = 300
                self.assertGreaterEqual(sign_by_decimals(heard_decimal(value, east, north) * many - floor), 0)
                self.assertEqual(sign_by_decimals(heard_decimal(value, east, north) * many - floor - 1), -1)

    def test_great_ones(self):
        p, q = pell(390)
        for many in (1, 10 ** 399, 7 ** 450):
            self.assertEqual(self.check(point(3 * p, 4 * p, -p), 0, 0, many), 4 * p * many)
            self.check(point((p, q), (q, -p), (p, -q), 2), Fraction(p, q), Fraction(q, p), many)
            self.check(point(Fraction(q, p), (0, Fraction(p, q)), -p, Fraction(p, q)), p, -q, many)
        sign = 1 if 2 * q * q > p * p else -1
        self.assertEqual(self.check(point(q, q, 0), 0, 0, 1), p if sign > 0 else p - 1)
        self.assertEqual(self.check(point((0, q), 0, -p, 2), 0, 0, 1), 0 if sign > 0 else -1)

    def test_refusals(self):
        refusals(self, heard_floor, [POINT, EAST, NORTH, MANY])


class HeardFigures(unittest.TestCase):
    def test_by_hand(self):
        for value, east, north, places, told in (
            (STILL, NIL, NIL, 0, "5"), (STILL, NIL, NIL, 1, "5.0"), (STILL, ONE, NIL, 2, "4.47"), (SLANT, NIL, NIL, 3, "2.414"),
            (SLANT, NIL, NIL, 40, "2.4142135623730950488016887242096980785696"), (point(3, 4, -5), NIL, NIL, 2, "0.00"),
            (point(3, 4, Fraction(-501, 100)), NIL, NIL, 2, "-0.01"), (point(3, 4, Fraction(-5001, 1000)), NIL, NIL, 2, "-0.01"),
            (point(3, 4, -5), ONE, NIL, 1, "-0.6"), (point(3, 4, -5), ONE, NIL, 0, "-1"), (point(0, 0, -12), NIL, NIL, 0, "-12"),
            (point(0, 0, Fraction(1, 20)), NIL, NIL, 1, "0.0"), (point(0, 0, Fraction(1, 20)), NIL, NIL, 40, "0.05" + "0" * 38),
        ):
            self.assertEqual(heard_figures(value, east, north, places), told)
            self.assertEqual(heard_figures(places=places, north=north, east=east, point=value), told)

    def test_are_the_floor(self):
        places = some_fractions(10, 400, 9)
        for index, value in enumerate(some_points(11, 200, 9)):
            east, north = pair_of(places[2 * index]), pair_of(places[2 * index + 1])
            told = heard_figures(value, east, north, index % 41)
            floor = heard_floor(value, east, north, 10 ** (index % 41))
            self.assertEqual(int(told.replace(".", "")), floor)
            self.assertEqual(told.startswith("-"), floor < 0)
            ahead, _, behind = told.removeprefix("-").partition(".")
            self.assertEqual(len(behind), index % 41)
            self.assertTrue(ahead == "0" or not ahead.startswith("0"))

    def test_refusals(self):
        refusals(self, heard_figures, [POINT, EAST, NORTH, PLACES])


if __name__ == "__main__":
    unittest.main()
