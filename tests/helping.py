"""What several test files need: values of every wrong kind, refusals, and numbers by many decimals."""

from decimal import Decimal, localcontext
from fractions import Fraction

NIL, ONE, TWO = (0, 1), (1, 1), (2, 1)


def nested(depth):
    value = ()
    for _ in range(depth):
        value = (value,)
    return value


# No fraction, number, point, side, count or word of the package is among these.
ODD = [
    None, True, False, "", "1", "1/2", "root", b"1", b"", [], [1, 1], [0, 1], {}, {0: 1}, {1: 2}, set(), {1, 2},
    (), (1,), (1, 1, 1), (None, 1), (1, None), ("1", "1"), ([1], [1]), nested(19), object(), Fraction(1, 2), len, int,
    range(2), complex(1, 1), ((),), ((), ()), ((), (), ()), ((), (), (), ()), [ONE, ONE, ONE], [[1, 1], [1, 1], [1, 1]],
]
WRONG_FRACTIONS = ODD + [
    0, 1, -1, (2, 4), (2, 2), (-3, 3), (0, 2), (0, -1), (0, 0), (1, 0), (1, -1), (-1, -1), (-2, 4), (True, 1),
    (1, True), (False, 1), (True, True), ("1", 1), (1, "1"), (ONE, ONE), (1, ONE), (10 ** 300, 10 ** 299),
    (6 ** 200, 15 ** 200), (1, 1, 1), (1,), (ONE,), (ONE, NIL, NIL),
]
WRONG_NUMBERS = ODD + [
    0, 1, ONE, (ONE, ONE), (ONE, ONE, ONE, ONE), (ONE, ONE, (-1, 1)), (ONE, NIL, (-1, 7)), (ONE, ONE, (2, 4)),
    (ONE, (2, 4), ONE), ((2, 4), ONE, ONE), (1, 1, 1), (ONE, ONE, 1), (ONE, 1, ONE), (1, ONE, ONE), (ONE, ONE, None),
    (ONE, None, ONE), (None, ONE, ONE), ([1, 1], ONE, ONE), (ONE, [1, 1], ONE), (ONE, ONE, [1, 1]), (ONE, ONE, "1"),
    ((True, 1), ONE, ONE), (ONE, (True, 1), ONE), (ONE, ONE, (True, 1)), (ONE, ONE, (1, 0)), ((ONE, ONE, ONE),),
    (ONE, ONE, ONE, NIL), {0: ONE, 1: ONE, 2: ONE}, "111",
]
PAIR = (ONE, ONE)
WRONG_POINTS = ODD + [
    0, 1, ONE, (ONE, ONE, ONE), (PAIR, PAIR, PAIR), (PAIR, PAIR, PAIR, ONE, ONE), (PAIR, PAIR, PAIR, (-1, 1)),
    (PAIR, PAIR, PAIR, (2, 4)), (PAIR, PAIR, PAIR, PAIR), (PAIR, PAIR, PAIR, None), (PAIR, PAIR, PAIR, 1),
    (PAIR, PAIR, ONE, ONE), (PAIR, ONE, PAIR, ONE), (ONE, PAIR, PAIR, ONE), (PAIR, PAIR, None, ONE),
    (PAIR, PAIR, (ONE,), ONE), (PAIR, PAIR, (ONE, ONE, ONE), ONE), (PAIR, PAIR, [ONE, ONE], ONE),
    (PAIR, [ONE, ONE], PAIR, ONE), ([ONE, ONE], PAIR, PAIR, ONE), [PAIR, PAIR, PAIR, ONE],
    (PAIR, PAIR, (ONE, (2, 4)), ONE), (PAIR, ((2, 4), ONE), PAIR, ONE), (((0, 2), ONE), PAIR, PAIR, ONE),
    (PAIR, PAIR, ((True, 1), ONE), ONE), (PAIR, PAIR, (ONE, 1), ONE), (PAIR, PAIR, PAIR, (True, 1)),
]
WRONG_COUNTS = ODD + [0, -1, -10 ** 300, ONE, PAIR, (ONE, ONE, ONE)]
WRONG_PLACES = ODD + [-1, 41, 42, 10 ** 300, -10 ** 300, ONE, PAIR, (ONE, ONE, ONE)]
WRONG_SIDES = ODD + [
    0, 1, ONE, PAIR, (ONE, ONE, ONE, ONE), (NIL, NIL, ONE), (NIL, NIL, NIL), (ONE, ONE, (2, 4)), (ONE, (2, 4), ONE),
    ((2, 4), ONE, ONE), ((0, 2), ONE, ONE), (ONE, ONE, 1), (ONE, 1, ONE), (1, ONE, ONE), (ONE, ONE, None),
    (ONE, None, ONE), (None, ONE, ONE), ([1, 1], ONE, ONE), (ONE, [1, 1], ONE), (ONE, ONE, [1, 1]),
    ((True, 1), ONE, ONE), (ONE, (1, 0), ONE), "111",
]
WRONG_WORDS = ODD + [0, 1, 2, "X", "T", "xy", "x ", " t", "r", "xyt", ("x",), ["x"], b"x", ONE]


def refusals(test, function, signature):
    """Each argument wrong in turn, those behind it right, then wrong, too: by position, by name, in any order.

    signature tells (name, right value, class of its error, wrong values) for each argument.
    """
    right = [row[1] for row in signature]
    names = [row[0] for row in signature]
    function(*right)
    test.assertEqual(function(*right), function(**dict(reversed(list(zip(names, right))))))
    for index, (name, _, error, wrong) in enumerate(signature):
        for at, value in enumerate(wrong):
            also = [row[3][(at + 1) % len(row[3])] for row in signature[index + 1:]]
            ahead = right[:index] + [value]
            for arguments in (ahead + right[index + 1:], ahead + also):
                refused(test, error, value, lambda: function(*arguments))
                refused(test, error, value, lambda: function(**dict(reversed(list(zip(names, arguments))))))


def refused(test, error, value, call):
    with test.assertRaises(error) as caught:
        call()
    test.assertIs(caught.exception.__class__, error)
    test.assertIs(caught.exception.given, value)


def as_fraction(number):
    return Fraction(number[0], number[1])


def pair_of(value):
    """The pair of whole numbers of a Fraction or a whole number."""
    value = Fraction(value)
    return value.numerator, value.denominator


def decimal_of(number, digits=300):
    """A number with one square root, by so many digits: an own way that rests on no sign and no floor."""
    with localcontext() as context:
        context.prec = digits
        part, factor, root = [Decimal(top) / Decimal(bottom) for top, bottom in number]
        return part + factor * root.sqrt()


def sign_by_decimals(value, digits=300):
    """The sign of what was worked out by so many digits: what is as small as its error is 0."""
    with localcontext() as context:
        context.prec = digits
        if abs(value) < Decimal(10) ** -(digits // 2):
            return 0
        return 1 if value > 0 else -1


def pell(figures):
    """Whole numbers p, q with so many figures, p p - 2 q q 1 or - 1: p / q lies next to the square root of 2."""
    p, q = 1, 1
    while len(str(q)) < figures:
        p, q = p + 2 * q, p + q
    return p, q
