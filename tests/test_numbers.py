"""Numbers with one square root: what they are, their signs, order, sums, floors and figures."""

import functools
import math
import random
import unittest
from decimal import ROUND_FLOOR, localcontext
from fractions import Fraction

from helping import (NIL, ONE, TWO, WRONG_COUNTS, WRONG_FRACTIONS, WRONG_NUMBERS, WRONG_PLACES, as_fraction, decimal_of,
                     pair_of, pell, refusals, sign_by_decimals)
from latestshake.errors import InvalidCount, InvalidFraction, InvalidNumber
from latestshake.numbers import (compared, figures, floor_at, is_fraction, is_number, plain_of, plus, sign_of, square_of,
                                 times)

ROOT = (NIL, ONE, TWO)
NUMBER = ("number", ROOT, InvalidNumber, WRONG_NUMBERS)
OTHER = ("other", (ONE, ONE, (3, 1)), InvalidNumber, WRONG_NUMBERS)
FRACTION = ("fraction", (-2, 3), InvalidFraction, WRONG_FRACTIONS)
MANY = ("many", 7, InvalidCount, WRONG_COUNTS)
PLACES = ("places", 3, InvalidCount, WRONG_PLACES)


def number(part, factor=0, root=0):
    return pair_of(part), pair_of(factor), pair_of(root)


def some_numbers(seed, many, size):
    chance = random.Random(seed)
    for _ in range(many):
        part = Fraction(chance.randint(-size, size), chance.randint(1, size))
        factor = Fraction(chance.randint(-size, size), chance.randint(1, size))
        yield number(part, factor, Fraction(chance.randint(0, size), chance.randint(1, size)))


def told_alike(value, factor):
    """The same number by another triple: its root less by the square of the factor."""
    part, times_root, root = [as_fraction(row) for row in value]
    return number(part, times_root * factor, root / factor ** 2)


class Kinds(unittest.TestCase):
    def test_fractions(self):
        for value in [(0, 1), (1, 1), (-1, 1), (1, 2), (-3, 2), (7, 12), (10 ** 399, 3), (1, 10 ** 399), (-10 ** 399, 7)]:
            self.assertIs(is_fraction(value), True, value)
            self.assertIs(is_fraction(value=value), True)

    def test_no_fractions(self):
        for value in WRONG_FRACTIONS:
            self.assertIs(is_fraction(value), False)
            self.assertIs(is_fraction(value=value), False)

    def test_fractions_are_in_lowest_terms_just_so(self):
        for top in range(-12, 13):
            for bottom in range(-3, 13):
                right = bottom > 0 and (Fraction(top, bottom).numerator, Fraction(top, bottom).denominator) == (top, bottom)
                self.assertIs(is_fraction((top, bottom)), right)

    def test_numbers(self):
        for value in [(NIL, NIL, NIL), (ONE, NIL, TWO), ((-1, 2), (-3, 7), (5, 3)), (ONE, ONE, NIL), (ONE, TWO, (9, 4)),
                      ((-10 ** 399, 7), (10 ** 399, 3), (10 ** 399, 7))]:
            self.assertIs(is_number(value), True, value)
            self.assertIs(is_number(value=value), True)

    def test_no_numbers(self):
        for value in WRONG_NUMBERS:
            self.assertIs(is_number(value), False)
            self.assertIs(is_number(value=value), False)


class Plain(unittest.TestCase):
    def is_plain(self, value):
        _, factor, root = value
        if factor == NIL or root == NIL:
            return factor == root
        top, bottom = [math.isqrt(whole) for whole in root]
        return (top * top, bottom * bottom) != root

    def test_by_hand(self):
        for value, told in [
            (number(1, 2, Fraction(9, 4)), number(4)),
            (number(1, -2, Fraction(9, 4)), number(-2)),
            (number(Fraction(1, 3), Fraction(1, 2), 4), number(Fraction(4, 3))),
            (number(3, -3, 1), number(0)),
            (number(1, 0, 3), number(1)),
            (number(1, 0, 4), number(1)),
            (number(1, 5, 0), number(1)),
            (number(0, 0, 2), number(0)),
            (number(7), number(7)),
            (number(10 ** 300, 1, 10 ** 400), number(10 ** 300 + 10 ** 200)),
        ]:
            self.assertEqual(plain_of(value), told)

    def test_roots_that_are_no_fractions(self):
        for value in [ROOT, number(1, 2, Fraction(9, 2)), number(1, 2, Fraction(2, 9)), number(0, -1, 10 ** 400 + 1),
                      number(0, 1, Fraction(10 ** 400, 3)), number(5, 1, 8)]:
            plain = plain_of(value)
            self.assertTrue(self.is_plain(plain))
            self.assertEqual(plain[0], value[0])
            self.assertEqual(as_fraction(plain[1]) ** 2 * as_fraction(plain[2]),
                             as_fraction(value[1]) ** 2 * as_fraction(value[2]))
            self.assertEqual(sign_of((NIL, plain[1], plain[2])), sign_of((NIL, value[1], value[2])))

    def test_tells_the_same_number(self):
        for value in some_numbers(1, 400, 9):
            plain = plain_of(value)
            self.assertTrue(is_number(plain))
            self.assertTrue(self.is_plain(plain))
            self.assertEqual(compared(plain, value), 0)
            self.assertEqual(sign_by_decimals(decimal_of(plain) - decimal_of(value)), 0)

    def test_refusals(self):
        refusals(self, plain_of, [NUMBER])


class Signs(unittest.TestCase):
    def test_by_hand(self):
        for value, sign in [
            (number(0), 0), (number(3), 1), (number(-3), -1), (number(0, 1, 2), 1), (number(0, -1, 2), -1),
            (number(0, 1, 0), 0), (number(2, -5, 0), 1), (number(-2, 5, 0), -1), (number(2, 0, 9), 1),
            (number(1, 1, 2), 1), (number(-1, -1, 2), -1), (number(-2, 1, 4), 0), (number(2, -1, 4), 0),
            (number(Fraction(-3, 2), 1, Fraction(9, 4)), 0), (number(Fraction(-3, 2), 1, 2), -1),
            (number(Fraction(-7, 5), 1, 2), 1), (number(Fraction(7, 5), -1, 2), -1), (number(Fraction(3, 2), -1, 2), 1),
            (number(-1, 3, Fraction(1, 9)), 0), (number(-1, 3, Fraction(1, 10)), -1), (number(-1, 3, Fraction(1, 8)), 1),
        ]:
            self.assertEqual(sign_of(value), sign, value)
            self.assertIsInstance(sign_of(number=value), int)
            self.assertNotIsInstance(sign_of(value), bool)

    def test_by_decimals(self):
        for value in some_numbers(2, 2000, 12):
            self.assertEqual(sign_of(value), sign_by_decimals(decimal_of(value)), value)

    def test_near_to_nil(self):
        for many in (1, 2, 3, 20, 199, 200, 390):
            p, q = pell(many)
            sign = 1 if p * p > 2 * q * q else -1
            self.assertEqual(sign_of(number(p, -q, 2)), sign)
            self.assertEqual(sign_of(number(-p, q, 2)), -sign)
            self.assertEqual(sign_of(number(Fraction(p, q), -1, 2)), sign)
            self.assertEqual(sign_of(number(-p, Fraction(q, 3), 18)), -sign)
            self.assertEqual(sign_of(number(p, -1, 2 * q * q)), sign)
            self.assertEqual(sign_of(number(p, -1, p * p)), 0)

    def test_refusals(self):
        refusals(self, sign_of, [NUMBER])


class Order(unittest.TestCase):
    def check(self, low, high, order):
        self.assertEqual(compared(low, high), order, (low, high))
        self.assertEqual(compared(high, low), -order, (high, low))
        self.assertEqual(compared(other=high, number=low), order)

    def test_by_hand(self):
        for low, high, order in [
            (number(1), number(1), 0), (number(1), number(2), -1), (number(-1), number(-2), 1),
            (ROOT, number(1), 1), (ROOT, number(2), -1), (ROOT, number(0, 1, 3), -1), (ROOT, number(0, -1, 3), 1),
            (number(0, -1, 2), number(0, -1, 3), 1), (number(1, 1, 2), number(0, 1, Fraction(29, 5)), 1),
            (number(1, 1, 2), number(0, 1, Fraction(583, 100)), -1),
            (number(2, -1, 2), number(3, -1, 3), -1), (number(10, 1, 2), number(10, 1, 3), -1),
            (number(1, 1, 3), number(0, 1, 8), -1), (number(1, 1, 3), number(0, 1, 7), 1),
            (number(-1, -1, 3), number(0, -1, 8), 1), (number(5, 1, 2), number(5, -1, 3), 1),
            (number(0, 1, 0), number(0, 0, 5), 0), (number(1, 1, 0), number(0, 1, 2), -1),
        ]:
            self.check(low, high, order)

    def test_alike_ones_by_unlike_triples(self):
        for low, high in [
            (ROOT, number(0, 2, Fraction(1, 2))), (number(0, 1, 8), number(0, 2, 2)),
            (number(1, 1, Fraction(1, 2)), number(1, Fraction(1, 2), 2)), (number(4), number(1, 2, Fraction(9, 4))),
            (number(4), number(4, 0, 7)), (number(4), number(4, 9, 0)), (number(4), number(0, 4, 1)),
            (number(1, 3, 4), number(5, 2, 1)), (number(1, -3, 4), number(-3, -2, 1)), (number(0, 1, 4), number(1, 1, 1)),
            (number(3, -1, 9), number(0, 0, 2)), (number(2, -1, 12), number(2, -2, 3)),
        ]:
            self.check(low, high, 0)

    def test_by_decimals(self):
        lows, highs = list(some_numbers(3, 2500, 9)), list(some_numbers(4, 2500, 9))
        for low, high in zip(lows, highs):
            self.check(low, high, sign_by_decimals(decimal_of(low) - decimal_of(high)))

    def test_near_to_one_another_with_unlike_roots(self):
        for many in (1, 5, 50, 199):
            scale = 10 ** many
            # root(2) - 1 has the square 3 - root(8): above and below it lie roots of fractions.
            above = Fraction(3 * scale - math.isqrt(8 * scale * scale), scale)
            below = above - Fraction(1, scale)
            self.check(ROOT, number(1, 1, above), -1)
            self.check(ROOT, number(1, 1, below), 1)
            self.check(number(0, -1, 2), number(-1, -1, above), 1)
            self.check(number(1, 2, 2), number(3, 1, 4 * above), -1)
            self.check(number(1, 2, 2), number(3, 2, below), 1)
            self.check(number(2, -1, 2), number(1, -1, above), 1)
            self.check(number(2, -1, 2), number(1, -1, below), -1)

    def test_great_ones(self):
        for many in (20, 200, 390):
            p, q = pell(many)
            sign = 1 if p * p > 2 * q * q else -1
            self.check(number(Fraction(p, q)), ROOT, sign)
            self.check(number(p), number(0, q, 2), sign)
            self.check(number(p, 1, 3), number(0, q, 2), 1)
            self.check(number(p, -1, 3), number(0, q, 2), -1)
            self.check(number(p, 1, 3), told_alike(number(p, 1, 3), Fraction(10 ** 90, 7)), 0)
            self.check(number(0, q, 2), told_alike(number(0, q, 2), Fraction(3, 10 ** 90)), 0)
            self.check(number(0, 1, 10 ** many), number(0, 1, 10 ** many + 1), -1)

    def test_one_order(self):
        rows = list(some_numbers(5, 30, 4))
        rows += [told_alike(row, Fraction(3, 2)) for row in rows[:15]] + [plain_of(row) for row in rows[:15]]
        rows += [number(Fraction(p, q)) for p, q in (pell(many) for many in (3, 30, 31))] + [ROOT]
        rows = sorted(rows, key=functools.cmp_to_key(compared))
        for low in range(len(rows)):
            self.assertEqual(compared(rows[low], rows[low]), 0)
            for high in range(low + 1, len(rows)):
                self.assertLessEqual(compared(rows[low], rows[high]), 0)
                self.assertEqual(compared(rows[high], rows[low]), -compared(rows[low], rows[high]))

    def test_refusals(self):
        refusals(self, compared, [NUMBER, OTHER])


class Sums(unittest.TestCase):
    fractions = [NIL, ONE, (-1, 1), (2, 3), (-7, 2), (7, 10 ** 30)]

    def same(self, value, part, factor, root):
        """Whether a value is a number that is the one told by fractions."""
        self.assertTrue(is_number(value))
        self.assertEqual(compared(value, number(part, factor, root)), 0)
        self.assertEqual(as_fraction(value[0]), part)

    def test_plus_and_times(self):
        for value in some_numbers(6, 100, 9):
            part, factor, root = [as_fraction(row) for row in value]
            for pair in self.fractions:
                fraction = as_fraction(pair)
                self.same(plus(value, pair), part + fraction, factor, root)
                self.same(plus(fraction=pair, number=value), part + fraction, factor, root)
                self.same(times(value, pair), part * fraction, factor * fraction, root)
                self.same(times(fraction=pair, number=value), part * fraction, factor * fraction, root)

    def test_square_of(self):
        for value in some_numbers(7, 300, 9):
            part, factor, root = [as_fraction(row) for row in value]
            self.same(square_of(value), part ** 2 + factor ** 2 * root, 2 * part * factor, root)
            self.same(square_of(number=value), part ** 2 + factor ** 2 * root, 2 * part * factor, root)

    def test_whatever_triple_tells_the_number(self):
        for value in some_numbers(8, 100, 9):
            for alike in [told_alike(value, Fraction(2, 3)), told_alike(value, 7), plain_of(value)]:
                self.assertEqual(compared(plus(value, (2, 3)), plus(alike, (2, 3))), 0)
                self.assertEqual(compared(times(value, (-2, 3)), times(alike, (-2, 3))), 0)
                self.assertEqual(compared(square_of(value), square_of(alike)), 0)
                self.assertEqual(sign_of(alike), sign_of(value))
                self.assertEqual(floor_at(alike, 1000), floor_at(value, 1000))
                self.assertEqual(figures(alike, 5), figures(value, 5))

    def test_great_ones(self):
        p, q = pell(390)
        value = number(p, -q, 2)
        # 1 over the sum of p and q root(2), or less it: the square of the sum of both lies near to 4 p p.
        self.assertEqual(sign_of(plus(square_of(value), pair_of(Fraction(-1, p * p)))), -1)
        self.assertEqual(sign_of(plus(square_of(value), pair_of(Fraction(1, 5 * p * p)))), 1)
        self.assertEqual(sign_of(plus(square_of(value), pair_of(Fraction(-1, 5 * p * p)))), 1)
        self.assertEqual(compared(times(times(value, (1, 7 ** 400)), (7 ** 400, 1)), value), 0)
        for _ in range(5):
            value = square_of(value)
        # What the package returned may be passed to it, whatever its size.
        self.assertEqual(sign_of(value), 1)
        self.assertEqual(compared(value, plus(value, (1, 10 ** 399))), -1)
        self.assertEqual(floor_at(value, 1), 0)

    def test_nothing_is_changed(self):
        value = number(1, Fraction(2, 3), 5)
        for _ in range(2):
            self.assertEqual(plus(value, TWO), number(3, Fraction(2, 3), 5))
            self.assertEqual(value, number(1, Fraction(2, 3), 5))

    def test_refusals(self):
        refusals(self, plus, [NUMBER, FRACTION])
        refusals(self, times, [NUMBER, FRACTION])
        refusals(self, square_of, [NUMBER])


class Floors(unittest.TestCase):
    def test_by_hand(self):
        for value, many, floor in [
            (ROOT, 1, 1), (ROOT, 100, 141), (number(0, -1, 2), 1, -2), (number(0, -1, 2), 100, -142), (number(0), 9, 0),
            (number(7), 1, 7), (number(-7), 1, -7), (number(Fraction(7, 2)), 1, 3), (number(Fraction(-7, 2)), 1, -4),
            (number(Fraction(-7, 2)), 2, -7), (number(3, 2, 4), 5, 35), (number(3, -2, 4), 5, -5), (number(0, -1, 4), 1, -2),
            (number(0, -1, Fraction(9, 4)), 1, -2), (number(0, -1, Fraction(9, 4)), 2, -3), (number(1, 5, 0), 3, 3),
            (number(1, -5, 0), 3, 3), (number(2, -1, 2), 1, 0), (number(1, -1, 2), 1, -1), (number(-2, 1, 2), 1, -1),
        ]:
            self.assertEqual(floor_at(value, many), floor, (value, many))
            self.assertEqual(floor_at(many=many, number=value), floor)

    def test_by_decimals_and_signs(self):
        for index, value in enumerate(some_numbers(9, 600, 12)):
            many = (1, 2, 7, 10 ** 40, 10 ** 40 - 1, 3 ** 80)[index % 6]
            floor = floor_at(value, many)
            self.assertIsInstance(floor, int)
            self.assertGreaterEqual(sign_of(plus(times(value, (many, 1)), (-floor, 1))), 0)
            self.assertEqual(sign_of(plus(times(value, (many, 1)), (-floor - 1, 1))), -1)
            if plain_of(value)[1] != NIL:
                with localcontext() as context:
                    context.prec = 300
                    self.assertEqual(floor, int((decimal_of(value) * many).to_integral_value(ROUND_FLOOR)))

    def test_near_to_whole_ones(self):
        for many in (2, 20, 199, 390):
            p, q = pell(many)
            sign = 1 if p * p > 2 * q * q else -1
            for whole in (-3, 0, 5):
                self.assertEqual(floor_at(number(whole + p, -q, 2), 1), whole if sign > 0 else whole - 1)
                self.assertEqual(floor_at(number(whole - p, q, 2), 1), whole if sign < 0 else whole - 1)
                self.assertEqual(floor_at(number(whole + p, -1, p * p), 1), whole)
                self.assertEqual(floor_at(number(whole - p, 1, p * p), 1), whole)

    def test_great_many(self):
        p, q = pell(200)
        for many in (10 ** 399, 10 ** 399 - 7, 2 ** 1300):
            for value, left, right in ((number(p, -q, 2), p, -q), (number(-p, q, 2), -p, q)):
                floor = floor_at(value, many)
                root = math.isqrt(2 * (many * q) ** 2)
                self.assertEqual(floor, many * left + (root if right > 0 else -root - 1))

    def test_refusals(self):
        refusals(self, floor_at, [NUMBER, MANY])


class Figures(unittest.TestCase):
    def test_by_hand(self):
        for value, places, told in [
            (ROOT, 0, "1"), (ROOT, 1, "1.4"), (ROOT, 4, "1.4142"),
            (ROOT, 40, "1.4142135623730950488016887242096980785696"), (number(0, -1, 2), 0, "-2"),
            (number(0, -1, 2), 1, "-1.5"), (number(0, -1, 2), 2, "-1.42"), (number(1), 0, "1"), (number(1), 1, "1.0"),
            (number(-1), 3, "-1.000"), (number(0), 0, "0"), (number(0), 1, "0.0"), (number(0), 40, "0." + "0" * 40),
            (number(Fraction(1, 20)), 1, "0.0"), (number(Fraction(1, 20)), 2, "0.05"), (number(Fraction(1, 20)), 3, "0.050"),
            (number(Fraction(-1, 20)), 1, "-0.1"), (number(Fraction(-1, 20)), 0, "-1"),
            (number(Fraction(-1, 1000)), 2, "-0.01"), (number(Fraction(-1, 1000)), 4, "-0.0010"),
            (number(Fraction(-1, 10 ** 50)), 40, "-0." + "0" * 39 + "1"), (number(Fraction(1, 10 ** 50)), 40, "0." + "0" * 40),
            (number(Fraction(1, 3)), 4, "0.3333"), (number(Fraction(-1, 3)), 2, "-0.34"), (number(1234), 2, "1234.00"),
            (number(Fraction(12345, 10)), 2, "1234.50"), (number(0, 1, Fraction(1, 1000)), 3, "0.031"),
            (number(-10), 0, "-10"), (number(Fraction(-19, 2)), 0, "-10"), (number(10 ** 399), 1, "1" + "0" * 399 + ".0"),
        ]:
            self.assertEqual(figures(value, places), told)
            self.assertEqual(figures(places=places, number=value), told)

    def test_are_the_floor(self):
        for index, value in enumerate(some_numbers(10, 300, 30)):
            places = index % 41
            told = figures(value, places)
            floor = floor_at(value, 10 ** places)
            self.assertEqual(int(told.replace(".", "")), floor)
            self.assertEqual(told.startswith("-"), floor < 0)
            ahead, point, behind = told.removeprefix("-").partition(".")
            self.assertEqual((point, len(behind)), ("." if places else "", places))
            self.assertTrue(ahead.isdigit() and (ahead == "0" or not ahead.startswith("0")))

    def test_refusals(self):
        refusals(self, figures, [NUMBER, PLACES])


if __name__ == "__main__":
    unittest.main()
