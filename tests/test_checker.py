"""The checker and certificates: papers right and bent in each place, beside a second checker; of opposites just one."""

import itertools
import random
import unittest
from fractions import Fraction

from helping import (FOUR, NIL, ODD, ONE, SCENE, WRONG_LOTS, WRONG_POINTS, WRONG_SCENES, WRONG_SIDE_ROWS, WRONG_WRONG, point,
                     refusals, scene_of, sides_of, some_leads, some_scenes, told_alike)
from latestshake.candidates import candidates, fits, latest
from latestshake.certificates import (certify_conflict, certify_fits, certify_in, certify_latest, certify_least,
                                      certify_likely, certify_lot)
from latestshake.checker import accepts
from latestshake.errors import InvalidCount, InvalidLot, InvalidScene, InvalidSides, TooMany
from latestshake.leads import led_scene
from latestshake.numbers import compared
from latestshake.points import is_point, number_of, ordered
from latestshake.questions import possibly
from latestshake.scenes import is_let, is_scene, rows_of, states_at
from latestshake.wrong import broken_by, conflicts, is_enough, latest_likely, least_lots, likely_point

EXACT = scene_of(FOUR, [("a", 5, 5), ("b", 5, 5), ("c", 5, 5)], [])
CLASH = scene_of(FOUR, [("a", 5, 5), ("b", 5, 5), ("c", 5, 5), ("d", 9, 9)], [])
LATE = scene_of(FOUR, [("a", 5, 5), ("b", 5, 5), ("c", 30, 31), ("d", 4, None)], [])
SHUT = scene_of(FOUR, [("a", 5, 5), ("b", 5, 5)], [(1, 0, 0), (-1, 0, -1)])
BARE = scene_of(FOUR, [], [(1, 0, 3), (0, 1, 9)])
BARE_SHUT = scene_of(FOUR, [], [(0, 1, 5), (1, 0, 0), (-1, 0, -1)])
OPEN = scene_of(FOUR, [], [])
HIGHS = scene_of(FOUR, [("a", None, 1), ("b", None, 2)], [(1, 0, 2)])
LOWS = scene_of(FOUR, [("a", 1, None), ("b", 2, None)], [(1, 0, 2)])
TWICE = scene_of(FOUR, [("a", 0, 1), ("a", 2, 3), ("b", 0, 9)], [(1, 0, 3), (0, 1, 4)])
SPECIAL = [EXACT, CLASH, LATE, SHUT, BARE, BARE_SHUT, OPEN, HIGHS, LOWS, TWICE]
STILL = point(3, 4, 0)


def without(scene, lot):
    return scene[0], tuple(row for index, row in enumerate(scene[1]) if index not in lot), scene[2]


def alone(scene, lot):
    return scene[0], tuple(scene[1][index] for index in lot), scene[2]


def with_sides(scene, sides):
    return scene[0], scene[1], scene[2] + sides


def all_lots(many):
    return [lot for size in range(many + 1) for lot in itertools.combinations(range(many), size)]


def is_whole(value, low, high):
    return type(value) is int and low <= value <= high


def is_lot(scene, value):
    if type(value) is not tuple or not all(is_whole(index, 0, len(scene[1]) - 1) for index in value):
        return False
    return all(one < other for one, other in zip(value, value[1:]))


def fits_at(scene, value):
    return is_point(value) and is_let(scene, value)


def broken(scene, paper):
    """Whether a paper tells for each candidate a broken row of the scene."""
    told, many = candidates(scene), len(rows_of(scene))
    if type(paper) is not tuple or len(paper) != len(told):
        return False
    return all(is_whole(index, 0, many - 1) and states_at(scene, value)[index] == "broken" for index, (_, value) in zip(paper, told))


def later(one, other):
    return compared(number_of(one, "t"), number_of(other, "t")) > 0


def side_told(scene, value, reason):
    """Whether a reason tells a side that a point breaks."""
    if type(reason) is not tuple or len(reason) != 2 or reason[0] != "side" or not is_whole(reason[1], 0, len(scene[2]) - 1):
        return False
    return dict(zip(rows_of(scene), states_at(scene, value)))["side", reason[1]] == "broken"


def is_latest(scene, told, paper):
    rows, found = rows_of(scene), candidates(scene)
    if not any(kind == "high" for kind, _ in rows) or not is_let(scene, told) or type(paper) is not tuple or len(paper) != len(found):
        return False
    for index, (_, value) in zip(paper, found):
        if not is_whole(index, -1, len(rows) - 1):
            return False
        if later(value, told) if index == -1 else states_at(scene, value)[index] != "broken":
            return False
    return True


def are_least(scene, lots, paper):
    if type(paper) is not tuple or len(paper) != 2 or type(paper[0]) is not tuple or type(paper[1]) is not tuple:
        return False
    points, reasons = paper
    found = candidates(scene)
    if len(points) != len(lots) or len(reasons) != len(found):
        return False
    if not all(fits_at(without(scene, lot), value) for lot, value in zip(lots, points)):
        return False
    for reason, (_, value) in zip(reasons, found):
        is_named = type(reason) is tuple and len(reason) == 2 and reason[0] == "lot" and is_whole(reason[1], 0, len(lots) - 1)
        if not side_told(scene, value, reason) and not (is_named and set(lots[reason[1]]) <= set(broken_by(scene, value))):
            return False
    return True


def is_conflict(scene, lot, paper):
    if type(paper) is not tuple or len(paper) != 2 or type(paper[1]) is not tuple or len(paper[1]) != len(lot):
        return False
    others = [alone(scene, [other for other in lot if other != index]) for index in lot]
    return broken(alone(scene, lot), paper[0]) and all(fits_at(other, value) for other, value in zip(others, paper[1]))


def is_not_likely(scene, many, paper):
    found = candidates(scene)
    if type(paper) is not tuple or len(paper) != len(found):
        return False
    for reason, (_, value) in zip(paper, found):
        is_named = type(reason) is tuple and len(reason) == 2 and reason[0] == "readings" and is_lot(scene, reason[1])
        if not side_told(scene, value, reason):
            if not is_named or len(reason[1]) <= many or not set(reason[1]) <= set(broken_by(scene, value)):
                return False
    return True


def is_likely(scene, many, paper):
    return is_point(paper) and is_let((scene[0], (), scene[2]), paper) and len(broken_by(scene, paper)) <= many


def second(claim, paper):
    """A second checker, that asks the functions of the package, of claims that are right."""
    word, scene, *told = claim
    if word in ("fits", "fits not"):
        return (fits_at if word == "fits" else broken)(scene, paper)
    if word in ("possibly", "never"):
        return (fits_at if word == "possibly" else broken)(with_sides(scene, told[0]), paper)
    if word in ("enough", "not enough"):
        return (fits_at if word == "enough" else broken)(without(scene, told[0]), paper)
    if word == "later":
        return fits_at(scene, paper) and later(paper, told[0])
    return {"latest": is_latest, "least lots": are_least, "conflict": is_conflict, "likely": is_likely,
            "not likely": is_not_likely}[word](scene, told[0], paper)


def bent(value, depth=3):
    """The same bent in one place, each in turn."""
    yield from (None, True, False, -1, 0, 1, 10 ** 9, -10 ** 300, "", "side", "lot", (), [], {}, 7, ((),), (0,), STILL)
    if isinstance(value, int):
        yield from (value + 1, value - 1, -value, str(value), (value,), Fraction(value))
    if isinstance(value, str):
        yield from (value + " ", value.upper(), value[:-1], value.encode(), (value,))
    if isinstance(value, tuple):
        yield from (list(value), (*value, value[-1] if value else 0), value[:-1], (value,), value[::-1], (*value, None), dict(enumerate(value)))
        if depth and not is_point(value):
            for index in range(len(value)):
                for part in bent(value[index], depth - 1):
                    yield (*value[:index], part, *value[index + 1:])


def some_pairs(scene, chance):
    """Claims of a scene, right and wrong, each with a paper, right if the package makes one for it."""
    pairs = [certify_fits(scene), certify_latest(scene), certify_least(scene)]
    sides = sides_of((chance.choice([1, -1, 0]), chance.choice([1, 2]), chance.randint(-4, 6)))
    if len(scene[2]) < 8:
        pairs += [certify_in(scene, sides), certify_in(scene, ())]
    lots = all_lots(len(scene[1]))
    pairs += [certify_lot(scene, lot) for lot in chance.sample(lots, min(3, len(lots)))]
    pairs += [certify_conflict(scene, lot) for lot in conflicts(scene)[:2]]
    pairs += [certify_likely(scene, many) for many in (0, 1, 2)]
    told = chance.choice(candidates(scene))[1]
    pairs += [(("later", scene, told), value) for value in (latest(scene), told)]
    pairs += [(("latest", scene, told), (certify_latest(scene) or (None, ()))[1])]
    return [pair for pair in pairs if pair is not None]


OPPOSITE = {"fits": "fits not", "possibly": "never", "enough": "not enough", "likely": "not likely"}
OPPOSITE.update({other: word for word, other in list(OPPOSITE.items())})


class Checker(unittest.TestCase):
    def same(self, claim, paper):
        """Accepted exactly if the second checker does."""
        right = second(claim, paper)
        self.assertIs(accepts(claim, paper), right, (claim[0], claim[2:], paper))
        return right

    def test_bent_papers(self):
        chance, seen = random.Random(111), {}
        for scene in [*SPECIAL, *some_scenes(112, 12, 3)]:
            for claim, paper in some_pairs(scene, chance):
                self.assertIs(accepts(paper=paper, claim=claim), second(claim, paper))
                papers = list(bent(paper))
                for other in chance.sample(papers, min(len(papers), 60)):
                    seen[claim[0], self.same(claim, other)] = True
        for word in ("fits not", "never", "latest", "not enough", "least lots", "conflict", "not likely"):
            self.assertIn((word, False), seen)

    def test_each_row_for_each_candidate(self):
        """Of broken rows each one that is broken will do, no other one."""
        for scene in (CLASH, SHUT, BARE_SHUT):
            (word, _), paper = certify_fits(scene)
            self.assertEqual(word, "fits not")
            for at, (_, value) in enumerate(candidates(scene)):
                states = states_at(scene, value)
                for index in range(-len(states) - 1, len(states) + 2):
                    other = (*paper[:at], index, *paper[at + 1:])
                    right = 0 <= index < len(states) and states[index] == "broken"
                    self.assertIs(accepts(("fits not", scene), other), right)
                for wrong in (None, True, False, str(paper[at]), (paper[at],), [paper[at]], Fraction(paper[at])):
                    self.assertIs(accepts(("fits not", scene), (*paper[:at], wrong, *paper[at + 1:])), False)
            for wrong in (list(paper), paper[:-1], (*paper, paper[-1]), paper[1:], (), (paper,), None, STILL):
                self.assertIs(accepts(("fits not", scene), wrong), False)

    def test_points_told_otherwise(self):
        chance = random.Random(113)
        for scene in [*SPECIAL, *some_scenes(114, 20, 3)]:
            for claim, paper in some_pairs(scene, chance):
                if is_point(paper) and accepts(claim, paper):
                    for factor in (2, Fraction(1, 3), 7):
                        self.assertIs(accepts(claim, told_alike(paper, factor)), True)
                if claim[0] == "latest":
                    other = ("latest", scene, told_alike(claim[2], 3))
                    self.assertIs(accepts(other, paper), accepts(claim, paper))
                if claim[0] == "least lots":
                    points = tuple(told_alike(value, 5) for value in paper[0])
                    self.assertIs(accepts(claim, (points, paper[1])), True)
                if claim[0] == "conflict":
                    points = tuple(told_alike(value, 5) for value in paper[1])
                    self.assertIs(accepts(claim, (paper[0], points)), True)
        # The root of 4 is 2: (3, 4) told with it.
        for factor in (1, -1):
            rooted = point((3 - 2 * factor, factor), (4 - 4 * factor, 2 * factor), (2 * factor, -factor), 4)
            self.assertIs(accepts(("fits", EXACT), rooted), True)
        self.assertIs(accepts(("fits", EXACT), (*STILL[:3], (2, 1))), True)

    def test_by_hand(self):
        self.assertIs(accepts(("fits", EXACT), STILL), True)
        self.assertIs(accepts(("fits", CLASH), STILL), False)
        self.assertIs(accepts(("fits", EXACT), point(3, 4, 1)), False)
        self.assertIs(accepts(("possibly", EXACT, sides_of((1, 0, 3))), STILL), True)
        self.assertIs(accepts(("possibly", EXACT, sides_of((1, 0, 2))), STILL), False)
        for lot, right in (((3,), True), ((2,), False), ((), False), ((0, 3), True), ((0, 1, 2, 3), True)):
            self.assertIs(accepts(("enough", CLASH, lot), STILL), right)
        for many, right in ((0, False), (1, True), (12, True)):
            self.assertIs(accepts(("likely", CLASH, many), STILL), right)
        # Broken rows by hand: high and low of a reading of 1 at most and of one of 2 at least, of one station.
        two = scene_of([("a", 0, 0)], [("a", None, 1), ("a", 2, None)], [])
        self.assertEqual([rows for rows, _ in candidates(two)], [(0,), (1,)])
        for paper, right in (((1, 0), True), ((0, 1), False), ((1, 1), False), ((0, 0), False), ((1,), False), ((1, 0, 0), False)):
            self.assertIs(accepts(("fits not", two), paper), right)
            self.assertIs(accepts(("never", two, ()), paper), right)
            self.assertIs(accepts(("not enough", two, ()), paper), right)
            self.assertIs(accepts(("conflict", two, (0, 1)), (paper, (point(0, 0, 5), point(0, 0, 0)))), right)
        for points, right in (((point(0, 0, 5), point(0, 0, 0)), True), ((point(0, 0, 0), point(0, 0, 5)), False),
                              ((point(9, 0, 5), point(8, 0, -20)), True), ((point(0, 0, 5),), False), ((), False),
                              ([point(0, 0, 5), point(0, 0, 0)], False), ((point(0, 0, 5),) * 2, False)):
            self.assertIs(accepts(("conflict", two, (0, 1)), ((1, 0), points)), right)
        lots = ((0,), (1,))
        for reasons, right in (((("lot", 1), ("lot", 0)), True), ((("lot", 0), ("lot", 1)), False), ((("lot", 1), ("lot", 1)), False),
                               ((("lot", 1), ("side", 0)), False), ((("lot", 1), ("readings", (0,))), False), ((1, 0), False),
                               ((("lot", 1), ("lot", -2)), False), ((("lot", True), ("lot", False)), False), ((("lot", 1),), False)):
            self.assertIs(accepts(("least lots", two, lots), ((point(0, 0, 5), point(0, 0, 0)), reasons)), right)
        for many, reasons, right in (
            (0, (("readings", (1,)), ("readings", (0,))), True), (1, (("readings", (1,)), ("readings", (0,))), False),
            (0, (("readings", (0,)), ("readings", (0,))), False), (0, (("readings", (1,)), ("readings", ())), False),
            (0, (("readings", (1,)), ("readings", (0, 1))), False), (0, (("readings", [1]), ("readings", (0,))), False),
            (0, (("readings", 1), ("readings", 0)), False), (0, (("lot", 1), ("lot", 0)), False),
        ):
            self.assertIs(accepts(("not likely", two, many), reasons), right)
        # HIGH 1 at a, 2 at b, x up to 2: latest at (2, 0), 4 from b. At a at 1 b's is broken, at b at 2 a's and the side, between
        # them at (5 / 2, 0) at - 3 / 2 the side, at (2, 0) at - 1 b's; where all three are tight it is - 9 / 2, twice.
        self.assertEqual([rows for rows, _ in candidates(HIGHS)], [(0,), (1,), (0, 1), (0, 2), (1, 2), (0, 1, 2), (0, 1, 2)])
        last = point(2, 0, -2)
        self.assertEqual(ordered(latest(HIGHS), last), 0)
        for paper, right in (((1, 0, 2, 1, -1, -1, -1), True), ((1, 2, 2, 1, -1, -1, -1), True), ((1, 0, 2, 1, -1, 0, -1), False),
                             ((-1, 0, 2, 1, -1, -1, -1), False), ((1, 0, -1, 1, -1, -1, -1), False), ((1, 0, 2, 1, -2, -1, -1), False),
                             ((1, 0, 2, 1, True, -1, -1), False), ((1, 0, 2, 1, None, -1, -1), False), ((1, 0, 2, 1, -1, -1), False),
                             ([1, 0, 2, 1, -1, -1, -1], False)):
            self.assertIs(accepts(("latest", HIGHS, last), paper), right)
        self.assertIs(accepts(("latest", HIGHS, point(2, 0, -3)), (1, 0, 2, 1, -1, -1, -1)), False)
        self.assertIs(accepts(("later", HIGHS, point(2, 0, -3)), last), True)
        self.assertIs(accepts(("later", HIGHS, last), last), False)
        self.assertIs(accepts(("later", HIGHS, point(2, 0, -3)), point(2, 0, -3)), False)

    def test_latest(self):
        chance = random.Random(115)
        for scene in [*SPECIAL, *some_scenes(116, 40, 3)]:
            pair = certify_latest(scene)
            high = any(kind == "high" for kind, _ in rows_of(scene))
            self.assertEqual(pair is not None, fits(scene) and high)
            if pair is None:
                for paper in ((-1,) * len(candidates(scene)), (0,) * len(candidates(scene))):
                    for _, value in chance.sample(candidates(scene), min(5, len(candidates(scene)))):
                        # Without a HIGH no paper is accepted; where nothing fits the point does not.
                        self.assertIs(accepts(("latest", scene, value), paper), False)
                continue
            (word, told, last), paper = pair
            self.assertEqual((word, told), ("latest", scene))
            self.assertTrue(is_let(scene, last))
            self.assertIs(accepts(*pair), True)
            self.assertIs(accepts(("later", scene, last), last), False)
            # Where a candidate is no later, - 1 will do, whatever it breaks.
            for at, (_, value) in enumerate(candidates(scene)):
                changed = (*paper[:at], -1, *paper[at + 1:])
                self.assertIs(accepts(pair[0], changed), not later(value, last))
                self.same(pair[0], changed)
                # Of "latest" and "later" of a point that fits just one is so.
                if is_let(scene, value):
                    self.assertIs(accepts(("later", scene, value), last), later(last, value))
                    self.assertIs(accepts(("latest", scene, value), paper), not later(last, value))

    def test_claims_bent(self):
        chance = random.Random(117)
        claims = []
        for scene in [*SPECIAL, *some_scenes(118, 6, 3)]:
            claims += [(claim, paper) for claim, paper in some_pairs(scene, chance) if accepts(claim, paper)]
        self.assertEqual({claim[0] for claim, _ in claims}, {
            "fits", "fits not", "possibly", "never", "latest", "later", "enough", "not enough", "least lots", "conflict", "likely", "not likely"})
        for claim, paper in claims:
            for other in (list(claim), claim[:-1], (*claim, claim[-1]), (*claim, ()), (claim,), claim[::-1], None, (), claim[0], (claim[0],)):
                self.assertIs(accepts(other, paper), False)
            for word in (None, "", "Fits", claim[0] + " ", claim[0].upper(), claim[0].encode(), (claim[0],), True, 0, "fit", "least", "side"):
                self.assertIs(accepts((word, *claim[1:]), paper), False)
            for value, _ in chance.sample(WRONG_SCENES, 40):
                self.assertIs(accepts((claim[0], value, *claim[2:]), paper), False)
            for value in [value for value in [*ODD, 13, -1, 10 ** 300] if value not in ((), (1,))]:
                if len(claim) > 2 and value != claim[2]:
                    self.assertIs(accepts((*claim[:2], value), paper), False, (claim, value))
                self.assertIs(accepts((claim[0], value, *claim[2:]), paper), False)

    def test_more_sides_than_eight(self):
        side = sides_of((1, 0, 100))
        for own in range(9):
            scene = (EXACT[0], EXACT[1], side * own)
            for more in range(12):
                self.assertIs(accepts(("possibly", scene, side * more), STILL), own + more <= 8)
        shut = scene_of(FOUR, [("a", 0, 1)], [(1, 0, 0), (-1, 0, -1)])
        for more in range(10):
            taken = with_sides(shut, side * more)
            paper = certify_fits(taken)[1] if more <= 6 else tuple([0] * 50)
            self.assertIs(accepts(("never", shut, side * more), paper), more <= 6)
        for value, _ in WRONG_SIDE_ROWS:
            self.assertIs(accepts(("possibly", EXACT, value), STILL), False)

    def test_lots_and_numbers_that_are_none(self):
        for value, _ in WRONG_LOTS:
            self.assertIs(accepts(("enough", SCENE, value), certify_lot(SCENE, (0, 1, 2, 3, 4))[1]), False)
            self.assertIs(accepts(("conflict", SCENE, value), None), False)
        for value in WRONG_WRONG:
            self.assertIs(accepts(("likely", EXACT, value), STILL), False)
        for many in range(13):
            self.assertIs(accepts(("likely", EXACT, many), STILL), True)
            self.assertIs(accepts(("not likely", SHUT, many), certify_likely(SHUT, many)[1]), True)
        for many in (13, -1, True, None, 10 ** 300):
            self.assertIs(accepts(("not likely", SHUT, many), certify_likely(SHUT, 12)[1]), False)
        for value in WRONG_POINTS:
            for word in ("latest", "later"):
                self.assertIs(accepts((word, EXACT, value), certify_latest(EXACT)[1]), False)
            for claim in (("fits", EXACT), ("possibly", EXACT, ()), ("enough", EXACT, ()), ("likely", EXACT, 12), ("later", EXACT, point(0, 0, -99))):
                self.assertIs(accepts(claim, value), False)
                self.assertIs(accepts(claim, STILL), True)

    def test_least_lots(self):
        for scene in (CLASH, LATE, TWICE, EXACT, OPEN, BARE, SHUT, BARE_SHUT):
            (word, told, lots), (points, reasons) = certify_least(scene)
            self.assertEqual((word, told, lots), ("least lots", scene, least_lots(scene)))
            self.assertIs(accepts((word, scene, lots), (points, reasons)), True)
            # Lots in another order, one of them less, twice, one that is not least, one within another one, a lot more.
            others = [lots[::-1], lots[1:], lots[:-1], lots + lots[:1], lots[:1] + lots, list(lots), (*lots, tuple(range(len(scene[1])))),
                      (*lots, (0,)), ((), *lots), (*lots, None), (*lots, (True,)), (*lots, [0]), (*lots, 0)]
            others += [tuple(sorted([*lots[:at], lot, *lots[at + 1:]])) for at in range(len(lots)) for lot in all_lots(len(scene[1]))]
            for other in others:
                if other == lots:
                    continue
                told = [(value, rest) for value in (points, points[::-1], points[:1] * len(other)) for rest in (reasons, reasons[::-1])]
                told += [((*points, STILL), reasons), (points[1:], reasons), (points[:-1], reasons)]
                for paper in told:
                    self.assertIs(accepts(("least lots", scene, other), paper), False, (other, paper))
        # For () all reasons tell sides; for ((),) any candidate breaks all of it.
        self.assertEqual({reason[0] for reason in certify_least(SHUT)[1][1]}, {"side"})
        self.assertIs(accepts(("least lots", SHUT, ()), ((), certify_least(SHUT)[1][1])), True)
        self.assertIs(accepts(("least lots", SHUT, ((),)), ((STILL,), certify_least(SHUT)[1][1])), False)
        self.assertIs(accepts(("least lots", EXACT, ((),)), ((STILL,), (("lot", 0),) * len(candidates(EXACT)))), True)
        self.assertIs(accepts(("least lots", EXACT, ()), ((), certify_least(EXACT)[1][1])), False)
        self.assertIs(accepts(("least lots", CLASH, ((),)), ((STILL,), (("lot", 0),) * len(candidates(CLASH)))), False)

    def test_all_readings_and_none(self):
        """Lots () and lots of all readings, scenes without readings, whose rows are their own sides."""
        for scene in SPECIAL:
            many = tuple(range(len(scene[1])))
            for lot in ((), many):
                claim, paper = certify_lot(scene, lot)
                self.assertEqual(claim, ("enough" if fits(without(scene, lot)) else "not enough", scene, lot))
                self.assertIs(accepts(claim, paper), True)
        claim, paper = certify_fits(BARE_SHUT)
        self.assertEqual(claim, ("fits not", BARE_SHUT))
        self.assertEqual([rows for rows, _ in candidates(BARE_SHUT)], [(), (0,), (1,), (2,), (0, 1), (0, 2)])
        # x is 0, 0, 0, 1, 0, 1 at these places: the row of x from 1 on has the index 2, that of x up to 0 has 1.
        self.assertIs(accepts(claim, (2, 2, 2, 1, 2, 1)), True)
        self.assertEqual(certify_conflict(BARE_SHUT, ()), (("conflict", BARE_SHUT, ()), (paper, ())))
        self.assertIs(accepts(("conflict", BARE_SHUT, ()), ((2, 2, 2, 1, 2, 1), ())), True)
        claim, paper = certify_conflict(SHUT, ())
        self.assertEqual((claim, paper[1]), (("conflict", SHUT, ()), ()))
        self.assertIs(accepts(claim, paper), True)
        self.assertIs(accepts(claim, (paper[0], (STILL,))), False)
        self.assertIs(accepts(claim, (paper[0], [])), False)
        self.assertIs(accepts(("conflict", OPEN, ()), ((0,), ())), False)
        self.assertIsNone(certify_conflict(OPEN, ()))
        self.assertIsNone(certify_conflict(CLASH, ()))

    def test_whatever_it_is(self):
        values = [*ODD, *WRONG_POINTS, 0, 1, -1, STILL, EXACT, "fits", ("fits",), ("fits", EXACT), ("fits not", CLASH), (0, 1)]
        for claim in values:
            for paper in (*values[::5], STILL):
                right = claim == ("fits", EXACT) and paper == STILL
                self.assertIs(accepts(claim, paper), right)
        words = list(OPPOSITE) + ["latest", "later", "least lots", "conflict"]
        for word in words:
            for value in values:
                for claim in ((word,), (word, value), (word, EXACT, value), (word, value, STILL), (word, EXACT, value, value)):
                    for paper in (STILL, (), value):
                        self.assertIsInstance(accepts(claim, paper), bool)
                        if len(claim) == 2 and word not in ("fits", "fits not"):
                            self.assertIs(accepts(claim, paper), False)


class Certificates(unittest.TestCase):
    def settled(self, pair, is_so, words, told):
        """The one of two claims that is so, with a paper; no paper at hand shows the other one."""
        claim, paper = pair
        self.assertEqual(claim, (words[0 if is_so else 1], *told))
        self.assertIs(accepts(claim, paper), True)
        self.assertTrue(second(claim, paper))
        other = (OPPOSITE[claim[0]], *claim[1:])
        tried = [paper, (), None, (0,), *self.papers_against(claim)]
        for against in tried:
            self.assertIs(accepts(other, against), False)

    def papers_against(self, claim):
        """Papers for the opposite of a claim, as near to right as can be."""
        scene = claim[1]
        if claim[0] == "possibly" or claim[0] == "never":
            scene = with_sides(scene, claim[2])
        elif claim[0] in ("enough", "not enough"):
            scene = without(scene, claim[2])
        told = candidates(scene)
        if claim[0] in ("fits not", "never", "not enough", "not likely"):
            return [value for _, value in told[:50]] + [STILL]
        states = [states_at(scene, value) for _, value in told]
        broken_rows = tuple(state.index("broken") if "broken" in state else 0 for state in states)
        lots = tuple(("readings", broken_by(claim[1], value)) for _, value in candidates(claim[1]))
        return [broken_rows, lots, tuple(("side", 0) for _ in told)]

    def test_of_opposites_just_one(self):
        chance = random.Random(121)
        for scene in [*SPECIAL, *some_scenes(122, 60, 4)]:
            self.settled(certify_fits(scene), fits(scene), ("fits", "fits not"), (scene,))
            sides = sides_of(*[(chance.choice([1, -1, 2]), chance.choice([1, 0, -3]), chance.randint(-6, 9)) for _ in range(chance.randint(0, 4))])
            if len(scene[2] + sides) <= 8:
                self.settled(certify_in(scene, sides), possibly(scene, sides) is not None, ("possibly", "never"), (scene, sides))
            lots = all_lots(len(scene[1]))
            for lot in chance.sample(lots, min(4, len(lots))):
                self.settled(certify_lot(scene, lot), is_enough(scene, lot), ("enough", "not enough"), (scene, lot))
            for many in (0, 1, 2, 12):
                self.settled(certify_likely(scene, many), likely_point(scene, many) is not None, ("likely", "not likely"), (scene, many))

    def test_beside_the_functions(self):
        for scene in [*SPECIAL, *some_scenes(123, 40, 4)]:
            claim, paper = certify_least(scene)
            self.assertEqual(claim, ("least lots", scene, least_lots(scene)))
            self.assertIs(accepts(claim, paper), True)
            told = conflicts(scene)
            for lot in all_lots(len(scene[1])):
                pair = certify_conflict(scene, lot)
                self.assertEqual(pair is not None, lot in told)
                if pair is not None:
                    self.assertEqual(pair[0], ("conflict", scene, lot))
                    self.assertIs(accepts(*pair), True)
                    for index in range(len(lot)):
                        self.assertIs(accepts(("conflict", scene, lot[:index] + lot[index + 1:]), pair[1]), False)
            pair, last = certify_latest(scene), latest(scene)
            self.assertEqual(pair is None, last is None)
            if pair is not None:
                self.assertEqual(compared(number_of(pair[0][2], "t"), number_of(last, "t")), 0)
                self.assertEqual(compared(number_of(latest_likely(scene, 0), "t"), number_of(last, "t")), 0)

    def test_enough_stays(self):
        """A paper of enough stays one where readings are put behind the others, for the lot with these."""
        chance = random.Random(124)
        for scene in [*SPECIAL, *some_scenes(125, 30, 3)]:
            for lot in all_lots(len(scene[1])):
                claim, paper = certify_lot(scene, lot)
                if claim[0] == "enough":
                    more = tuple((chance.choice(scene[0])[0], NIL, ONE) for _ in range(chance.randint(1, 3)))
                    longer = (scene[0], scene[1] + more, scene[2])
                    whole = lot + tuple(range(len(scene[1]), len(longer[1])))
                    self.assertIs(accepts(("enough", longer, whole), paper), True)
                    self.assertEqual(certify_lot(longer, whole)[0][0], "enough")

    def test_sure_sides(self):
        """Each side of a polygon is surely kept, or its rim touched at most, if never beyond it."""
        box = [(1, 0, 4), (-1, 0, -2), (0, 1, 5), (0, -1, -3)]
        for u, v, limit in box:
            claim, paper = certify_in(EXACT, sides_of((-u, -v, -limit)))
            self.assertEqual(claim[0], "never")
            self.assertIs(accepts(claim, paper), True)

    def test_led(self):
        chance, leads = random.Random(126), list(some_leads())
        for scene in some_scenes(127, 30, 4):
            led = led_scene(chance.choice(leads), scene)
            self.assertEqual(certify_fits(led)[0][0], certify_fits(scene)[0][0])
            self.assertEqual(certify_least(led)[0][2], certify_least(scene)[0][2])
            self.assertEqual(certify_latest(led) is None, certify_latest(scene) is None)
            for many in (0, 1, 2):
                self.assertEqual(certify_likely(led, many)[0][0], certify_likely(scene, many)[0][0])

    def test_too_many(self):
        side = sides_of((1, 0, 100))
        for own, more in ((8, 1), (1, 8), (5, 4)):
            scene, given = (EXACT[0], EXACT[1], side * own), side * more
            with self.assertRaises(TooMany) as caught:
                certify_in(scene, given)
            self.assertIs(caught.exception.given, given)
            self.assertEqual(certify_in(scene, side * (8 - own))[0][0], "possibly")
        with self.assertRaises(InvalidSides) as caught:
            certify_in((EXACT[0], EXACT[1], side * 8), side + (None,))
        self.assertEqual(caught.exception.index, 1)

    def test_refusals(self):
        scene = ("scene", SCENE, InvalidScene, WRONG_SCENES)
        for function in (certify_fits, certify_latest, certify_least):
            refusals(self, function, [scene])
        refusals(self, certify_in, [scene, ("sides", sides_of((1, 0, 3)), InvalidSides, WRONG_SIDE_ROWS)])
        for function in (certify_lot, certify_conflict):
            refusals(self, function, [scene, ("lot", (0, 2), InvalidLot, WRONG_LOTS)])
        refusals(self, certify_likely, [scene, ("many", 2, InvalidCount, WRONG_WRONG)])

    def test_scenes_are_right(self):
        self.assertTrue(all(is_scene(scene) for scene in SPECIAL))


if __name__ == "__main__":
    unittest.main()
