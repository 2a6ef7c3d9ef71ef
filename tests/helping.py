"""What several test files need: values of every wrong kind, refusals, numbers by many decimals, small scenes."""

import math
import random
from decimal import Decimal, localcontext
from fractions import Fraction

from latestshake.errors import InvalidCorners, InvalidLot, InvalidScene, InvalidSides

NIL, ONE, TWO = (0, 1), (1, 1), (2, 1)


def nested(depth):
    value = ()
    for _ in range(depth):
        value = (value,)
    return value


# No fraction, number, point, side, count or word of the package is among these.
ODD = [
    None, True, False, "", "1", "1/2", "root", b"1", b"", [], [1, 1], [0, 1], {}, {0: 1}, {1: 2}, set(), {1, 2},
    (), (1,), (1, 1, 1), (None, 1), (1, None), ("1", "1"), ([1], [1]), nested(19), object(), Fraction(1, 2), len, int,
    range(2), complex(1, 1), ((),), ((), ()), ((), (), ()), ((), (), (), ()), [ONE, ONE, ONE], [[1, 1], [1, 1], [1, 1]],
]
WRONG_FRACTIONS = ODD + [
    0, 1, -1, (2, 4), (2, 2), (-3, 3), (0, 2), (0, -1), (0, 0), (1, 0), (1, -1), (-1, -1), (-2, 4), (True, 1),
    (1, True), (False, 1), (True, True), ("1", 1), (1, "1"), (ONE, ONE), (1, ONE), (10 ** 300, 10 ** 299),
    (6 ** 200, 15 ** 200), (1, 1, 1), (1,), (ONE,), (ONE, NIL, NIL),
]
WRONG_NUMBERS = ODD + [
    0, 1, ONE, (ONE, ONE), (ONE, ONE, ONE, ONE), (ONE, ONE, (-1, 1)), (ONE, NIL, (-1, 7)), (ONE, ONE, (2, 4)),
    (ONE, (2, 4), ONE), ((2, 4), ONE, ONE), (1, 1, 1), (ONE, ONE, 1), (ONE, 1, ONE), (1, ONE, ONE), (ONE, ONE, None),
    (ONE, None, ONE), (None, ONE, ONE), ([1, 1], ONE, ONE), (ONE, [1, 1], ONE), (ONE, ONE, [1, 1]), (ONE, ONE, "1"),
    ((True, 1), ONE, ONE), (ONE, (True, 1), ONE), (ONE, ONE, (True, 1)), (ONE, ONE, (1, 0)), ((ONE, ONE, ONE),),
    (ONE, ONE, ONE, NIL), {0: ONE, 1: ONE, 2: ONE}, "111",
]
PAIR = (ONE, ONE)
WRONG_POINTS = ODD + [
    0, 1, ONE, (ONE, ONE, ONE), (PAIR, PAIR, PAIR), (PAIR, PAIR, PAIR, ONE, ONE), (PAIR, PAIR, PAIR, (-1, 1)),
    (PAIR, PAIR, PAIR, (2, 4)), (PAIR, PAIR, PAIR, PAIR), (PAIR, PAIR, PAIR, None), (PAIR, PAIR, PAIR, 1),
    (PAIR, PAIR, ONE, ONE), (PAIR, ONE, PAIR, ONE), (ONE, PAIR, PAIR, ONE), (PAIR, PAIR, None, ONE),
    (PAIR, PAIR, (ONE,), ONE), (PAIR, PAIR, (ONE, ONE, ONE), ONE), (PAIR, PAIR, [ONE, ONE], ONE),
    (PAIR, [ONE, ONE], PAIR, ONE), ([ONE, ONE], PAIR, PAIR, ONE), [PAIR, PAIR, PAIR, ONE],
    (PAIR, PAIR, (ONE, (2, 4)), ONE), (PAIR, ((2, 4), ONE), PAIR, ONE), (((0, 2), ONE), PAIR, PAIR, ONE),
    (PAIR, PAIR, ((True, 1), ONE), ONE), (PAIR, PAIR, (ONE, 1), ONE), (PAIR, PAIR, PAIR, (True, 1)),
]
WRONG_COUNTS = ODD + [0, -1, -10 ** 300, ONE, PAIR, (ONE, ONE, ONE)]
WRONG_PLACES = ODD + [-1, 41, 42, 10 ** 300, -10 ** 300, ONE, PAIR, (ONE, ONE, ONE)]
WRONG_SIDES = ODD + [
    0, 1, ONE, PAIR, (ONE, ONE, ONE, ONE), (NIL, NIL, ONE), (NIL, NIL, NIL), (ONE, ONE, (2, 4)), (ONE, (2, 4), ONE),
    ((2, 4), ONE, ONE), ((0, 2), ONE, ONE), (ONE, ONE, 1), (ONE, 1, ONE), (1, ONE, ONE), (ONE, ONE, None),
    (ONE, None, ONE), (None, ONE, ONE), ([1, 1], ONE, ONE), (ONE, [1, 1], ONE), (ONE, ONE, [1, 1]),
    ((True, 1), ONE, ONE), (ONE, (1, 0), ONE), "111",
]
WRONG_PAIRS = ODD + [
    0, 1, ONE, (ONE,), (ONE, ONE, ONE), (ONE, (2, 4)), ((2, 4), ONE), (ONE, 1), (1, ONE), (ONE, None), (None, ONE),
    [ONE, ONE], (ONE, [1, 1]), ([1, 1], ONE), (ONE, (True, 1)), ((1, 0), ONE), (ONE, (0, 2)), (PAIR, PAIR), (PAIR,), "11",
]
QUARTER = (NIL, ONE, False, (ONE, NIL), TWO, (3, 1))
WRONG_LEADS = ODD + [
    0, 1, ONE, PAIR, QUARTER[:5], QUARTER + (ONE,), list(QUARTER), (QUARTER,), (ONE, ONE, *QUARTER[2:]),
    (NIL, NIL, *QUARTER[2:]), ((3, 5), (3, 5), *QUARTER[2:]), ((1, 2), (1, 2), *QUARTER[2:]), (TWO, NIL, *QUARTER[2:]),
    (0, 1, *QUARTER[2:]), ((0, 2), ONE, *QUARTER[2:]), (NIL, (2, 2), *QUARTER[2:]), (None, ONE, *QUARTER[2:]),
    (*QUARTER[:2], 0, *QUARTER[3:]), (*QUARTER[:2], 1, *QUARTER[3:]), (*QUARTER[:2], None, *QUARTER[3:]),
    (*QUARTER[:2], "False", *QUARTER[3:]), (*QUARTER[:2], NIL, *QUARTER[3:]), (*QUARTER[:2], (), *QUARTER[3:]),
    (*QUARTER[:3], ONE, *QUARTER[4:]), (*QUARTER[:3], (ONE, (2, 4)), *QUARTER[4:]), (*QUARTER[:3], None, *QUARTER[4:]),
    (*QUARTER[:3], [ONE, NIL], *QUARTER[4:]), (*QUARTER[:3], (ONE, NIL, NIL), *QUARTER[4:]),
    (*QUARTER[:4], NIL, ONE), (*QUARTER[:4], (-1, 1), ONE), (*QUARTER[:4], 2, ONE), (*QUARTER[:4], (2, 4), ONE),
    (*QUARTER[:4], None, ONE), (*QUARTER[:5], (2, 4)), (*QUARTER[:5], 3), (*QUARTER[:5], None), (*QUARTER[:5], (1, 0)),
]
WRONG_WORDS = ODD + [0, 1, 2, "X", "T", "xy", "x ", " t", "r", "xyt", ("x",), ["x"], b"x", ONE]


WRONG_NAMES = [row for row in ODD if row != "root"] + [
    0, 1, "A", "Ab", "aB", "abcdefghijkl" + "m", "z" * 13, "a" * 1000, "a b", " a", "a ", "a\n", "a1", "a_", "a-b", "a;",
    "station", "at", "heard", "from", "to", "side", "up", "\u00e4", "a\u00e9", "\uff41", "\u0430", ("a",), ["a"], b"a",
]
SCENE = (
    (("a", NIL, NIL), ("b", (6, 1), NIL), ("abcdefghijkl", (3, 2), (-4, 3)), ("stations", NIL, (9, 1))),
    (("b", NIL, (5, 1)), ("a", None, (5, 1)), ("stations", (1, 2), None), ("b", ONE, ONE), ("a", (-7, 2), (-10, 3))),
    ((NIL, (-1, 1), (-4, 1)), (ONE, NIL, (9, 1)), ((1, 2), (-2, 3), NIL)),
)


# Stations at the corners of a box, 5 from its middle (3, 4).
FOUR = [("a", 0, 0), ("b", 6, 0), ("c", 0, 8), ("d", 6, 8)]


def changed(value, path, part):
    """A tuple with another part at the end of a path."""
    if path == ():
        return part
    return (*value[:path[0]], changed(value[path[0]], path[1:], part), *value[path[0] + 1:])


def path_in(value, path):
    """The path of what is wrong first where a value of ODD stands at a path of SCENE."""
    if path in ((0,), (1,), (2,)):
        return (*path, 0) if isinstance(value, tuple) and value else path
    return (*path, 0) if isinstance(value, tuple) and len(value) == 3 else path


def wrong_parts():
    """Triples of a path in SCENE, what is put there, and the path that is then wrong first."""
    for path in [(), (0,), (1,), (2,)] + [(0, k) for k in range(4)] + [(1, k) for k in range(5)] + [(2, k) for k in range(3)]:
        odd = ODD if path not in ((1,), (2,)) else [value for value in ODD if value != ()]
        yield from [(path, value, path_in(value, path)) for value in [*odd, 0, 7, ONE]]
        if len(path) != 1:
            row = SCENE if path == () else SCENE[path[0]][path[1]]
            yield from [(path, value, path) for value in (row[:2], (*row, row[0]), list(row), (row,), (*row, NIL, NIL))]
    for k in range(4):
        yield from [((0, k, 0), value, (0, k, 0)) for value in WRONG_NAMES]
        yield from [((0, k, at), value, (0, k, at)) for at in (1, 2) for value in WRONG_FRACTIONS]
        for other in range(k):
            yield (0, k, 0), SCENE[0][other][0], (0, k)
            yield (0, k), (SCENE[0][k][0], *SCENE[0][other][1:]), (0, k)
    for k in range(5):
        yield from [((1, k, 0), value, (1, k, 0)) for value in [*WRONG_NAMES, "c", "ab", "station", "root"]]
        told = [value for value in WRONG_FRACTIONS if value is not None]
        yield from [((1, k, at), value, (1, k, at)) for at in (1, 2) for value in told]
        for ends in ((None, None), (TWO, ONE), (ONE, (999, 1000)), ((1, 10 ** 399), NIL), ((-1, 3), (-1, 2))):
            yield (1, k), ("a", *ends), (1, k)
    for k in range(3):
        yield from [((2, k, at), value, (2, k, at)) for at in (0, 1, 2) for value in WRONG_FRACTIONS]
        yield from [((2, k), (NIL, NIL, limit), (2, k)) for limit in (NIL, ONE, (-1, 2))]
    many = [("s" + "abcdefghijklm"[k], (k, 1), NIL) for k in range(13)]
    yield (0,), tuple(many), (0,)
    yield (0,), tuple(many + many), (0,)
    yield (1,), (SCENE[1] * 3)[:13], (1,)
    yield (2,), SCENE[2] * 3, (2,)


WRONG_SCENES = [(changed(SCENE, path, part), wrong) for path, part, wrong in wrong_parts()]
WRONG_WRONG = ODD + [-1, 13, 14, 10 ** 300, -10 ** 300, ONE, PAIR]
WRONG_SQUARES = ODD + [0, -1, 25, 26, 10 ** 300, -10 ** 300, ONE, PAIR]
HALF = (ONE, NIL, (1, 2))
TRIANGLE = ((NIL, NIL), (ONE, NIL), (NIL, ONE))


def told_wrong(values, is_right, least, most):
    """Pairs of values that are no tuples of so many right elements, and where the first wrong one stands, None for none."""
    for value in values:
        if not isinstance(value, tuple) or not least <= len(value) <= most:
            yield value, None
            continue
        wrong = next((at for at in range(len(value)) if not is_right(value, at)), None)
        if wrong is not None:
            yield value, wrong


def is_right_index(value, at):
    return type(value[at]) is int and value[at] in range(5) and (at == 0 or value[at] > value[at - 1])


# Of SCENE, which has 5 readings.
WRONG_LOTS = list(told_wrong(ODD + [
    0, 1, ONE, (0, 0), (5,), (-1,), (0, 1, 2, 3, 4, 5), (0, 2, 1), (4, 3), (0, True), (False, 1), (0, 1, None), (0, (1,)),
    (0, 1, 10 ** 300), (-10 ** 300, 1), [0, 1], (0, "1"), ((0,),), (0, [1]), {0, 1}, range(3), (0, 1, 2, 3, 4, 4), "01", (3, 1, 2),
], is_right_index, 0, 10 ** 9))
WRONG_SIDE_ROWS = list(told_wrong(
    ODD + [0, 1, ONE, HALF, [HALF], (HALF,) * 9, (HALF,) * 12, (None,) * 9, {0: HALF}]
    + [(*(HALF,) * at, value, *more) for at in (0, 1, 3) for value in WRONG_SIDES for more in ((), (HALF,), (None,))],
    lambda value, at: value[at] == HALF, 0, 8))
WRONG_CORNERS = list(told_wrong(
    ODD + [0, 1, ONE, TRIANGLE[:2], TRIANGLE[:1], TRIANGLE * 3, [*TRIANGLE], ((0, 0), (1, 0), (0, 1)), {0: TRIANGLE[0]}]
    + [(*TRIANGLE[:at], value, *TRIANGLE[at + 1:]) for at in range(3) for value in WRONG_PAIRS]
    + [(*TRIANGLE[:at], None, *TRIANGLE[at + 1:2], [ONE, ONE]) for at in range(2)],
    lambda value, at: value[at] in TRIANGLE, 3, 8)) + [(corners, None) for corners in [
        TRIANGLE[::-1], (*TRIANGLE, TRIANGLE[0]), (*TRIANGLE, *TRIANGLE), (TRIANGLE[0],) * 3, (*TRIANGLE[:2], TRIANGLE[1]),
        ((NIL, NIL), (ONE, NIL), (TWO, NIL)), ((NIL, NIL), (ONE, NIL), (TWO, NIL), (ONE, ONE))]]
WINDOW = ((NIL, NIL), (ONE, (3, 2)), 3)
WRONG_WINDOWS = ODD + [
    0, 1, ONE, WINDOW[:2], (*WINDOW, 3), [*WINDOW], (WINDOW,), (WINDOW[1], WINDOW[0], 3), (WINDOW[0], WINDOW[0], 3),
    (WINDOW[0], (NIL, ONE), 3), (WINDOW[0], (ONE, NIL), 3), (WINDOW[0], ((-1, 9), ONE), 3), (WINDOW[0], (ONE, (-1, 9)), 3),
    *[(WINDOW[0], WINDOW[1], many) for many in WRONG_SQUARES], *[(WINDOW[0], place, 3) for place in WRONG_PAIRS],
    *[(place, WINDOW[1], 3) for place in WRONG_PAIRS],
]
# What an error of these classes bears: its wrong values are told as pairs of a value and this.
BORNE = {InvalidScene: "path", InvalidLot: "index", InvalidSides: "index", InvalidCorners: "index"}


def refusals(test, function, signature):
    """Each argument wrong in turn, those behind it right, then wrong, too: by position, by name, in any order.

    signature tells (name, right value, class of its error, wrong values) for each argument; for a class in BORNE the
    wrong values are pairs of a value and what the error bears.
    """
    right = [row[1] for row in signature]
    names = [row[0] for row in signature]
    function(*right)
    test.assertEqual(function(*right), function(**dict(reversed(list(zip(names, right))))))
    for index, (name, _, error, wrong) in enumerate(signature):
        for at, value in enumerate(values_of(error, wrong)):
            behind = [values_of(row[2], row[3]) for row in signature[index + 1:]]
            also = [values[(at + 1) % len(values)] for values in behind]
            ahead = right[:index] + [value]
            borne = wrong[at][1] if error in BORNE else None
            for arguments in (ahead + right[index + 1:], ahead + also):
                refused(test, error, value, lambda: function(*arguments), borne)
                refused(test, error, value, lambda: function(**dict(reversed(list(zip(names, arguments))))), borne)


def values_of(error, wrong):
    return [value for value, _ in wrong] if error in BORNE else wrong


def refused(test, error, value, call, borne=None):
    with test.assertRaises(error) as caught:
        call()
    test.assertIs(caught.exception.__class__, error)
    if error in BORNE:
        test.assertEqual(getattr(caught.exception, BORNE[error]), borne)
    else:
        test.assertIs(caught.exception.given, value)


def as_fraction(number):
    return Fraction(number[0], number[1])


def pair_of(value):
    """The pair of whole numbers of a Fraction or a whole number."""
    value = Fraction(value)
    return value.numerator, value.denominator


def decimal_of(number, digits=300):
    """A number with one square root, by so many digits: an own way that rests on no sign and no floor."""
    with localcontext() as context:
        context.prec = digits
        part, factor, root = [Decimal(top) / Decimal(bottom) for top, bottom in number]
        return part + factor * root.sqrt()


def sign_by_decimals(value, digits=300):
    """The sign of what was worked out by so many digits: what is as small as its error is 0."""
    with localcontext() as context:
        context.prec = digits
        if abs(value) < Decimal(10) ** -(digits // 2):
            return 0
        return 1 if value > 0 else -1


def point(x, y, t, root=0):
    """A point of whole numbers, Fractions, or pairs of such."""
    rows = [row if isinstance(row, tuple) else (row, 0) for row in (x, y, t)]
    return (*[(pair_of(part), pair_of(factor)) for part, factor in rows], pair_of(root))


def told_alike(value, factor):
    """The same place and moment by another quadruple."""
    *pairs, root = value
    pairs = [(as_fraction(part), as_fraction(times) * factor) for part, times in pairs]
    return point(*pairs, as_fraction(root) / factor ** 2)


def heard_decimal(value, east, north, digits=300):
    """When a shake is heard, by so many digits."""
    with localcontext() as context:
        context.prec = digits
        x, y, t = [decimal_of((*pair, value[3]), digits) for pair in value[:3]]
        x -= Decimal(east.numerator) / Decimal(east.denominator)
        y -= Decimal(north.numerator) / Decimal(north.denominator)
        return t + (x * x + y * y).sqrt()


def scene_of(stations, readings, sides):
    """A scene of whole numbers, Fractions and None."""
    return (
        tuple((name, pair_of(x), pair_of(y)) for name, x, y in stations),
        tuple((name, *[None if end is None else pair_of(end) for end in ends]) for name, *ends in readings),
        tuple(tuple(pair_of(part) for part in side) for side in sides),
    )


def some_scenes(seed, many, most_readings=5):
    """Small scenes, about half of which fit: what some shake would be heard as, with errors, some greater than told."""
    chance = random.Random(seed)
    for _ in range(many):
        places = chance.sample([(x, y) for x in range(-4, 5) for y in range(-4, 5)], chance.randint(1, 4))
        stations = [("abcd"[index], *place) for index, place in enumerate(places)]
        east, north = chance.randint(-4, 4), chance.randint(-4, 4)
        readings = []
        for _ in range(chance.randint(0, most_readings)):
            name, x, y = chance.choice(stations)
            middle = Fraction(math.isqrt(4 * (x - east) ** 2 + 4 * (y - north) ** 2) + chance.randint(-2, 2), 2)
            wide = Fraction(chance.randint(0, 4), chance.choice([2, 3]))
            readings.append((name, *chance.choice([(middle - wide, middle + wide)] * 3 + [(middle, None), (None, middle)])))
        sides = []
        for _ in range(chance.choice([0, 0, 1, 2, 3, 4])):
            u, v = chance.choice([(u, v) for u in range(-2, 3) for v in range(-2, 3) if u or v])
            sides.append((u, v, Fraction(chance.randint(-3, 9), chance.choice([1, 2]))))
        yield scene_of(stations, readings, sides)


def sides_of(*told):
    """Sides of whole numbers and Fractions."""
    return scene_of([], [], told)[2]


def corners_of(*told):
    """Corners of whole numbers and Fractions."""
    return tuple((pair_of(x), pair_of(y)) for x, y in told)


def some_leads():
    """Leads of each kind: turned by some angles, mirrored or not, shifted, stretched, later."""
    turns = [(1, 0), (0, 1), (-1, 0), (0, -1), (Fraction(3, 5), Fraction(4, 5)), (Fraction(-5, 13), Fraction(12, 13)),
             (Fraction(8, 17), Fraction(-15, 17))]
    moves = [(0, 0, 1, 0), (1, -2, 1, 0), (0, 0, 2, 0), (0, 0, 1, 3), (Fraction(1, 2), 3, Fraction(2, 3), Fraction(-5, 4))]
    for a, b in turns:
        for is_mirrored in (False, True):
            for east, north, by, later in moves:
                yield (pair_of(a), pair_of(b), is_mirrored, (pair_of(east), pair_of(north)), pair_of(by), pair_of(later))


def led_point(lead, value):
    """Where a lead leads a point: part and factor of each number by themselves, the root as it was."""
    a, b, by = [as_fraction(lead[index]) for index in (0, 1, 4)]
    shift = [as_fraction(part) for part in (*lead[3], lead[5])]
    (x, x_factor), (y, y_factor), (t, t_factor) = [[as_fraction(part) for part in pair] for pair in value[:3]]
    y, y_factor = (-y, -y_factor) if lead[2] else (y, y_factor)
    pairs = [(a * x - b * y, a * x_factor - b * y_factor), (b * x + a * y, b * x_factor + a * y_factor), (t, t_factor)]
    return (*[(pair_of(by * part + more), pair_of(by * factor)) for (part, factor), more in zip(pairs, shift)], value[3])


def pell(figures):
    """Whole numbers p, q with so many figures, p p - 2 q q 1 or - 1: p / q lies next to the square root of 2."""
    p, q = 1, 1
    while len(str(q)) < figures:
        p, q = p + 2 * q, p + q
    return p, q
