"""Pictures: signs beside a second way of asking for each square, drawings sign for sign, signs read from them again."""

import itertools
import random
import unittest
from fractions import Fraction

from helping import (FOUR, NIL, ODD, ONE, SCENE, WINDOW, WRONG_SCENES, WRONG_SQUARES, WRONG_WINDOWS, as_fraction, pair_of, refusals,
                     scene_of, sides_of, some_leads, some_scenes)
from latestshake.candidates import point_fitting
from latestshake.errors import InvalidCount, InvalidDrawing, InvalidScene, InvalidWindow
from latestshake.leads import led_place, led_scene
from latestshake.pictures import drawing, signs, signs_in
from latestshake.questions import possibly
from latestshake.scenes import moments_at

# Just (3, 4) is let.
LONE = scene_of(FOUR, [("a", 5, 5), ("b", 5, 5), ("c", 5, 5)], [])
LESS = Fraction(1, 10 ** 40)


def window_of(west, south, east, north, many):
    return ((pair_of(west), pair_of(south)), (pair_of(east), pair_of(north)), many)


def box_of(window, row, column):
    """West, south, east, north of a square."""
    (west, south), (east, north), many = window
    west, south, east, north = [as_fraction(part) for part in (west, south, east, north)]
    wide, high = (east - west) / many, (north - south) / many
    return west + column * wide, north - (row + 1) * high, west + (column + 1) * wide, north - row * high


def sides_around(west, south, east, north):
    return sides_of((1, 0, east), (-1, 0, -west), (0, 1, north), (0, -1, -south))


def sign_of(scene, window, row, column):
    """The sign of a square by a second way: its middle, then all candidates of the scene with its sides."""
    west, south, east, north = box_of(window, row, column)
    if moments_at(scene, (pair_of((west + east) / 2), pair_of((south + north) / 2))) is not None:
        return "#"
    # Not by possibly, which refuses more than eight sides.
    taken = (scene[0], scene[1], scene[2] + sides_around(west, south, east, north))
    return "." if point_fitting(taken) is None else "+"


def full_of_sides(seed, many):
    """Scenes with eight sides of their own that bound, most of them around the middle."""
    chance = random.Random(seed)
    for scene in some_scenes(seed, many, 3):
        ways = [(1, 0), (0, 1), (-1, 0), (0, -1), (1, 1), (-1, 1), (-1, -2), (2, -1)]
        yield (scene[0], scene[1], sides_of(*[(u, v, Fraction(chance.randint(1, 20), 3)) for u, v in ways]))


class Signs(unittest.TestCase):
    def beside(self, scene, window):
        told, many = signs(scene, window), window[2]
        self.assertIsInstance(told, tuple)
        self.assertEqual(signs(window=window, scene=scene), told)
        right = tuple("".join(sign_of(scene, window, row, column) for column in range(many)) for row in range(many))
        self.assertEqual(told, right)
        text = drawing(scene, window)
        self.assertEqual(drawing(window=window, scene=scene), text)
        self.assertEqual(signs_in(text, many), told)
        self.assertEqual(signs_in(many=many, drawing=text), told)
        return told

    def test_beside_a_second_way(self):
        chance, seen = random.Random(91), {}
        for scene in some_scenes(92, 90, 4):
            west, south = [Fraction(chance.randint(-14, 4), 2) for _ in range(2)]
            window = window_of(west, south, west + Fraction(chance.randint(1, 20), 2), south + Fraction(chance.randint(1, 20), 3),
                               chance.choice([1, 2, 3, 5]))
            for sign in "".join(self.beside(scene, window)):
                seen[sign] = seen.get(sign, 0) + 1
        self.assertGreater(min(seen.values()), 40)

    def test_eight_sides(self):
        seen = {}
        for scene in full_of_sides(93, 25):
            for sign in "".join(self.beside(scene, window_of(-8, -8, 8, 8, 4))):
                seen[sign] = seen.get(sign, 0) + 1
        self.assertGreater(min(seen.values()), 9)

    def test_beside_possibly_and_places(self):
        """Each place that is let lies in a square told # or +; of one told . none is."""
        chance = random.Random(94)
        for scene in some_scenes(95, 60, 4):
            window = window_of(-6, -6, 6, 6, 6)
            told = signs(scene, window)
            for _ in range(60):
                x, y = [Fraction(chance.randint(-24, 24), 4) for _ in range(2)]
                if moments_at(scene, (pair_of(x), pair_of(y))) is None:
                    continue
                for row in range(6):
                    for column in range(6):
                        west, south, east, north = box_of(window, row, column)
                        if west <= x <= east and south <= y <= north:
                            self.assertIn(told[row][column], "#+")
            if len(scene[2]) <= 4:
                row, column = chance.randrange(6), chance.randrange(6)
                there = possibly(scene, sides_around(*box_of(window, row, column)))
                self.assertEqual(told[row][column] == ".", there is None)

    def test_one_place_alone(self):
        # In the middle of a square, on an edge, on a corner, just beside the window.
        for told, right in [
            ((2, 3, 4, 5, 1), ("#",)), ((2, 3, 5, 6, 3), ("...", "++.", "++.")), ((1, 2, 5, 6, 2), ("++", "++")),
            ((3, 4, 5, 6, 2), ("..", "+.")), ((1, 2, 3, 4, 2), (".+", "..")), ((3, 3, 7, 7, 2), ("..", "+.")),
            ((1, 4, 5, 8, 2), ("..", "++")), ((0, 3, 4, 7, 4), ("....", "....", "..++", "..++")),
            ((3 + LESS, 3, 5, 5, 2), ("..", "..")), ((3 - LESS, 3, 5, 5, 2), ("+.", "+.")), ((-9, -9, 2, 3, 2), ("..", "..")),
            ((0, 4 - LESS, 4, 5, 1), ("+",)), ((0, 4 + LESS, 4, 5, 1), (".",)), ((0, 0, 6, 4, 1), ("+",)), ((0, 0, 3, 4, 1), ("+",)),
            ((0, 0, 3 - LESS, 4, 1), (".",)), ((0, 0, 6, 8, 3), ("...", ".#.", "...")),
        ]:
            self.assertEqual(self.beside(LONE, window_of(*told)), right)

    def test_along_a_line(self):
        # Sides alone let x = 1, y from 0 to 2.
        line = scene_of(FOUR, [], [(1, 0, 1), (-1, 0, -1), (0, 1, 2), (0, -1, 0)])
        self.assertEqual(self.beside(line, window_of(0, 0, 4, 4, 4)), ("....", "++..", "++..", "++.."))
        self.assertEqual(self.beside(line, window_of(0, 0, 2, 2, 1)), ("#",))
        self.assertEqual(self.beside(line, window_of(1, 0, 3, 2, 2)), ("+.", "+."))
        self.assertEqual(self.beside(line, window_of(-1, -2, 1, 0, 2)), (".+", ".."))
        # Readings alone let the line on from a station, away from another one: heard 6 later there, just as far as both are apart.
        ray = scene_of(FOUR, [("a", 5, 5), ("b", -1, -1)], [])
        self.assertEqual(self.beside(ray, window_of(4, -2, 8, 2, 4)), ("....", ".+++", ".+++", "...."))
        self.assertEqual(self.beside(ray, window_of(4, -3, 10, 3, 3)), ("...", "+##", "..."))
        self.assertEqual(self.beside(ray, window_of(6, -1, 8, 1, 1)), ("#",))
        self.assertEqual(self.beside(ray, window_of(6, -1, 8, 0, 1)), ("+",))
        self.assertEqual(self.beside(ray, window_of(5, -1, 6, 0, 1)), ("+",))
        self.assertEqual(self.beside(ray, window_of(5, -1, 6 - LESS, 1, 1)), (".",))

    def test_edges_that_curves_cross(self):
        # Distances up to 2 apart: the two branches open from (2, 0) and (4, 0).
        duo = scene_of([("west", 0, 0), ("east", 6, 0)], [("west", 2, 4), ("east", 2, 4)], [])
        self.assertEqual(self.beside(duo, window_of(-2, -1, 2, 1, 2)), (".+", ".+"))
        self.assertEqual(self.beside(duo, window_of(-2, -1, 2 - LESS, 1, 1)), ("+",))
        self.assertEqual(self.beside(duo, window_of(0, Fraction(-1, 2), 2 - LESS, Fraction(1, 2), 1)), ("+",))
        self.assertEqual(self.beside(duo, window_of(0, Fraction(-1, 9), Fraction(199, 100), Fraction(1, 9), 1)), (".",))
        self.beside(duo, window_of(-3, -5, 9, 5, 12))
        # A ring about one station lies in the midst of a square, all corners and edges of which are not let.
        ring = scene_of([("a", 0, 0), ("b", 1, 0), ("c", 0, 1)], [("a", 5, 5), ("b", 5, 5), ("c", 5, 5)], [])
        self.assertEqual(self.beside(ring, window_of(-4, -4, 6, 7, 1)), ("+",))

    def test_rows_from_the_top(self):
        corner = scene_of(FOUR, [("a", None, 5)], [(1, 0, -1), (0, -1, -1)])
        self.assertEqual(self.beside(corner, window_of(-3, -3, 3, 3, 3)), ("#+.", "++.", "..."))
        self.assertEqual(self.beside(scene_of(FOUR, [], [(2, 1, 0)]), window_of(-4, -2, 4, 2, 4)), ("##..", "##+.", "##+.", "##+."))

    def test_nothing_and_all(self):
        shut = scene_of(FOUR, [("a", 0, 1)], [(1, 0, 0), (-1, 0, -1)])
        clash = scene_of(FOUR, [("a", 0, 1), ("a", 2, 3)], [])
        for many in (1, 2, 24):
            for scene, sign in ((shut, "."), (clash, "."), (scene_of(FOUR, [], []), "#"), (scene_of(FOUR, [("a", 0, 1)], []), "#")):
                self.assertEqual(signs(scene, window_of(-1, -1, 1, 1, many)), (sign * many,) * many)

    def test_window_of_fractions(self):
        for scene in list(some_scenes(96, 12, 3)):
            self.beside(scene, window_of(Fraction(-7, 3), Fraction(-22, 7), Fraction(5, 4), Fraction(1, 10 ** 30), 3))
        far = window_of(10 ** 200, -10 ** 200, 10 ** 200 + 1, 10 ** 200, 2)
        self.assertEqual(signs(scene_of(FOUR, [("a", None, 5)], []), far), ("##", "##"))
        self.beside(LONE, far)

    def test_led(self):
        """Led by a shift and a stretch alone squares are led to squares."""
        for scene in some_scenes(97, 30, 4):
            for lead in [lead for lead in some_leads() if lead[0] == ONE and not lead[2]]:
                window = window_of(-3, -3, 4, 5, 3)
                led = (led_place(lead, window[0]), led_place(lead, window[1]), 3)
                self.assertEqual(signs(led_scene(lead, scene), led), signs(scene, window))

    def test_a_great_picture(self):
        chance = random.Random(98)
        stations = [(name, chance.randint(-20, 20), chance.randint(-20, 20)) for name in "abcdefghijkl"]
        readings = [(name, round(((x - 1) ** 2 + (y - 2) ** 2) ** 0.5) - 1, round(((x - 1) ** 2 + (y - 2) ** 2) ** 0.5) + 1)
                    for name, x, y in stations]
        scene = scene_of(stations, readings, [(1, 0, 20), (-1, 0, 20), (0, 1, 20), (0, -1, 20), (1, 1, 30), (2, -3, 40)])
        window = window_of(-1, 0, 3, 4, 24)
        told = signs(scene, window)
        self.assertEqual((len(told), {len(row) for row in told}), (24, {24}))
        self.assertEqual(signs_in(drawing(scene, window), 24), told)
        for _ in range(20):
            row, column = chance.randrange(24), chance.randrange(24)
            self.assertEqual(told[row][column], sign_of(scene, window, row, column))
        self.assertEqual({sign for row in told for sign in row}, {"#", "+", "."})

    def test_refusals(self):
        for function in (signs, drawing):
            refusals(self, function, [("scene", SCENE, InvalidScene, WRONG_SCENES), ("window", WINDOW, InvalidWindow, WRONG_WINDOWS)])
        for many in (1, 24):
            self.assertEqual(len(signs(SCENE, (*WINDOW[:2], many))), many)


def lines_for(told, circles=()):
    """The lines of a drawing of these signs and circles, written a second way, sign by sign."""
    many = len(told)
    lines = [f'<svg xmlns="http://www.w3.org/2000/svg" viewBox="0 0 {20 * many} {20 * many}">']
    for row, text in enumerate(told):
        column = 0
        while column < many:
            end = column
            while end < many and text[end] == text[column]:
                end += 1
            if text[column] != ".":
                fill = {"#": "black", "+": "silver"}[text[column]]
                lines.append(f'<rect x="{20 * column}" y="{20 * row}" width="{20 * (end - column)}" height="20" fill="{fill}"/>')
            column = end
    return lines + [f'<circle cx="{x}" cy="{y}" r="5" fill="red"/>' for x, y in circles] + ["</svg>"]


class Drawings(unittest.TestCase):
    def test_sign_for_sign(self):
        corner = scene_of([("q", 3, 3)], [("q", None, 5)], [(1, 0, -1), (0, -1, -1)])
        window = window_of(-3, -3, 3, 3, 3)
        self.assertEqual(signs(corner, window), ("#+.", "++.", "..."))
        self.assertEqual(drawing(corner, window), "\n".join([
            '<svg xmlns="http://www.w3.org/2000/svg" viewBox="0 0 60 60">',
            '<rect x="0" y="0" width="20" height="20" fill="black"/>',
            '<rect x="20" y="0" width="20" height="20" fill="silver"/>',
            '<rect x="0" y="20" width="40" height="20" fill="silver"/>',
            '<circle cx="60" cy="0" r="5" fill="red"/>',
            '</svg>']))

    def test_stations(self):
        def circles(stations, *told):
            lines = drawing(scene_of(stations, [], [(1, 0, -10 ** 6)]), window_of(*told)).split("\n")
            return lines[1:-1]

        def line(x, y):
            return f'<circle cx="{x}" cy="{y}" r="5" fill="red"/>'

        window = (-3, -3, 3, 3, 3)
        # Ascending by name; on the rim and its corners; outside by a little and by much.
        self.assertEqual(circles([("b", 3, -3), ("a", -3, 3), ("c", 0, 0), ("ab", -3, -3), ("d", 3, 3)], *window),
                         [line(0, 0), line(0, 60), line(60, 60), line(30, 30), line(60, 0)])
        self.assertEqual(circles([("b", 3 + LESS, 0), ("a", -3 - LESS, 0), ("c", 0, 3 + LESS), ("d", 0, -3 - LESS), ("e", 99, 0)], *window), [])
        self.assertEqual(circles([("b", 3 - LESS, 0), ("a", LESS - 3, 0), ("c", 0, 3 - LESS), ("d", 0, LESS - 3)], *window),
                         [line(0, 30), line(59, 30), line(30, 0), line(30, 59)])
        # Between whole numbers: the one below.
        self.assertEqual(circles([("a", Fraction(1, 20), Fraction(1, 20)), ("b", Fraction(19, 10), Fraction(1, 3))], *window),
                         [line(30, 29), line(49, 26)])
        self.assertEqual(circles([("a", 1, 1)], 0, 0, 3, 7, 1), [line(6, 17)])
        self.assertEqual(circles([("a", 1, 1)], 0, 0, 3, 7, 24), [line(160, 411)])

    def test_beside_a_second_way(self):
        chance = random.Random(101)
        for scene in some_scenes(102, 60, 4):
            many = chance.choice([1, 2, 3, 7])
            window = window_of(-3, -4, chance.randint(-2, 5), chance.randint(-3, 4), many)
            (west, south), (east, north) = [[as_fraction(part) for part in place] for place in window[:2]]
            circles = []
            for _, x, y in sorted(scene[0]):
                x, y = as_fraction(x), as_fraction(y)
                if west <= x <= east and south <= y <= north:
                    circles.append((20 * many * (x - west) // (east - west), 20 * many * (north - y) // (north - south)))
            self.assertEqual(drawing(scene, window).split("\n"), lines_for(signs(scene, window), circles))

    def test_signs_are_read_again(self):
        chance = random.Random(103)
        for _ in range(200):
            many = chance.choice([1, 2, 3, 5, 24])
            told = tuple("".join(chance.choice("#+..") for _ in range(many)) for _ in range(many))
            circles = [(chance.randint(0, 20 * many), chance.randint(0, 20 * many)) for _ in range(chance.choice([0, 1, 5, 40]))]
            self.assertEqual(signs_in("\n".join(lines_for(told, circles)), many), told)
        for sign in ".#+":
            for many in range(1, 25):
                self.assertEqual(signs_in("\n".join(lines_for((sign * many,) * many)), many), (sign * many,) * many)

    def refused(self, lines, many):
        text = lines if isinstance(lines, str) else "\n".join(lines)
        with self.assertRaises(InvalidDrawing) as caught:
            signs_in(text, many)
        self.assertIs(caught.exception.given, text)

    def test_wrong_lines(self):
        right = lines_for(("#+.", ".##", "+.#"), [(0, 60), (7, 9)])
        self.assertEqual(signs_in("\n".join(right), 3), ("#+.", ".##", "+.#"))
        for many in (1, 2, 4, 24):
            self.refused(right, many)
        changed = []
        for at in range(len(right)):
            # A line less, a line twice, a line in another place, a line changed in one sign.
            changed += [right[:at] + right[at + 1:], right[:at + 1] + right[at:]]
            for other in range(len(right)):
                left = right[:at] + right[at + 1:]
                changed.append(left[:other] + [right[at]] + left[other:])
            for place, sign in enumerate(right[at]):
                for other in ("", sign * 2, " ", "0", "2", "x", sign.upper() if sign.islower() else "q"):
                    changed.append(right[:at] + [right[at][:place] + other + right[at][place + 1:]] + right[at + 1:])
        # Those that are drawings still are told by all drawings of three squares a side.
        drawings = {}
        for row in itertools.product("#+.", repeat=9):
            told = tuple("".join(row[at:at + 3]) for at in (0, 3, 6))
            drawings[tuple(lines_for(told)[1:-1])] = told
        circles = {f'<circle cx="{x}" cy="{y}" r="5" fill="red"/>' for x in range(61) for y in range(61)}
        seen = {True: 0, False: 0}
        for lines in changed:
            rects = tuple(line for line in lines[1:-1] if line not in circles)
            is_right = lines[:1] == right[:1] and lines[-1:] == right[-1:] and rects in drawings
            is_right = is_right and lines[1:1 + len(rects)] == list(rects)
            seen[is_right] += 1
            if is_right:
                self.assertEqual(signs_in("\n".join(lines), 3), drawings[rects])
            else:
                self.refused(lines, 3)
        self.assertGreater(min(seen.values()), 15)
        for lines in ([], [""], right[:-1], right[1:], [*right, ""], ["", *right], [*right, *right], right[:1], right[-1:],
                      right[:1] + [""] + right[1:], right[:2] + ["<rect/>"] + right[2:], right[:-1] + ["<circle/>", right[-1]]):
            self.refused(lines, 3)
        whole = "\n".join(right)
        for text in ("\r\n".join(right), whole + "\n", " " + whole, whole.replace("\n", ""), whole.replace("\n", " ")):
            self.refused(text, 3)

    def test_other_rects(self):
        first, last = lines_for(("...", "...", "..."))
        rect = lambda x, y, width, fill="black", height=20: (
            f'<rect x="{x}" y="{y}" width="{width}" height="{height}" fill="{fill}"/>')
        self.assertEqual(signs_in("\n".join([first, rect(20, 40, 40), last]), 3), ("...", "...", ".##"))
        for rects in [
            # Not the longest runs, of one row; one run of two colours; one over another one; the same twice.
            [rect(0, 0, 20), rect(20, 0, 20)], [rect(0, 0, 20, "silver"), rect(20, 0, 40, "silver")],
            [rect(0, 0, 40), rect(20, 0, 40, "silver")], [rect(0, 0, 60), rect(20, 0, 20)], [rect(0, 0, 20), rect(0, 0, 20)],
            # In another order, by rows, by columns.
            [rect(0, 20, 20), rect(0, 0, 20)], [rect(40, 0, 20), rect(0, 0, 20)],
            # Off the squares, out of the window, of no width.
            [rect(10, 0, 20)], [rect(0, 10, 20)], [rect(0, 0, 30)], [rect(0, 0, 0)], [rect(60, 0, 20)], [rect(0, 60, 20)],
            [rect(40, 0, 40)], [rect(0, 0, 80)], [rect(-20, 0, 20)], [rect(0, -20, 20)], [rect(0, 0, -20)], [rect(20, 0, 10 ** 300)],
            [rect(10 ** 3000, 0, 20)], [rect("00", 0, 20)], [rect("020", 0, 20)], [rect("+20", 0, 20)], [rect("20.0", 0, 20)],
            [rect("2e1", 0, 20)], [rect(" 20", 0, 20)], [rect("2_0", 0, 20)], [rect("\u0662\u0660", 0, 20)], [rect("", 0, 20)],
            # Other colours, heights, signs.
            [rect(0, 0, 20, "red")], [rect(0, 0, 20, "Black")], [rect(0, 0, 20, "")], [rect(0, 0, 20, "black", 40)],
            [rect(0, 0, 20, "black", 0)], [rect(0, 0, 20, "blacksilver")], [rect(0, 0, 20) + " "], [" " + rect(0, 0, 20)],
            [rect(0, 0, 20)[:rect(0, 0, 20).index(' height')]], ['<rect x="0" y="0" width=20'], ['<rect x="0"'], ["<rect"], ['<rect""""'],
            [rect(0, 0, 20).replace('"', "'")], [rect(0, 0, 20).replace("/>", " />")], [rect(0, 0, 20).replace("/>", "></rect>")],
            [rect(0, 0, 20), ""], [rect(0, 0, 20) + rect(20, 0, 20, "silver")],
        ]:
            self.refused([first, *rects, last], 3)

    def test_other_circles(self):
        first, last = lines_for(("#..", "...", "..."))[0], "</svg>"
        rect = lines_for(("#..", "...", "..."))[1]
        circle = lambda x, y, more='r="5" fill="red"': f'<circle cx="{x}" cy="{y}" {more}/>'
        for x, y in ((0, 0), (60, 60), (0, 60), (59, 1)):
            self.assertEqual(signs_in("\n".join([first, rect, circle(x, y), last]), 3), ("#..", "...", "..."))
            # Any number of them, in any order, alike ones, too.
            self.assertEqual(signs_in("\n".join([first, rect, *[circle(x, y)] * 30, circle(5, 5), last]), 3), ("#..", "...", "..."))
        for x, y in ((61, 0), (0, 61), (-1, 0), (0, -1), ("00", 0), (0, "07"), ("1.5", 0), (0, ""), ("", 0), (" 1", 0), ("+1", 1),
                     ("-0", 0), (10 ** 300, 0), (0, 10 ** 3000), ("x", 0), ("\u0661", 0)):
            self.refused([first, rect, circle(x, y), last], 3)
        for more in ('r="4" fill="red"', 'r="5" fill="blue"', 'r="5"', 'fill="red" r="5"', 'r="5"  fill="red"', 'r="5" fill="red" '):
            self.refused([first, rect, circle(1, 1, more), last], 3)
        for line in ('<circle', '<circle cx="0"', '<circle cx="0" cy=0', '<circle cx="0" cy="0', '<circle""""', '"', '"0"0"', '"0"0"0'):
            self.refused([first, rect, line, last], 3)
        self.refused([first, circle(1, 1), rect, last], 3)
        self.refused([first, rect, last, circle(1, 1)], 3)
        self.refused([circle(1, 1), first, rect, last], 3)

    def test_refusals(self):
        text = "\n".join(lines_for(("#+.", ".##", "+.#")))
        strings = [value for value in ODD if isinstance(value, str)]
        refusals(self, signs_in, [("drawing", text, InvalidDrawing, [value for value in [*ODD, 0, ONE] if not isinstance(value, str)]),
                                  ("many", 3, InvalidCount, WRONG_SQUARES)])
        # That a string has not these lines is told last.
        for value in [*strings, "x" * 1000, "<svg>", "\n", text + "\n", text[:-1], text * 2, "\u00e4", "\x00"]:
            for many in (1, 3, 24):
                self.refused(value, many)
            for many in WRONG_SQUARES:
                with self.assertRaises(InvalidCount) as caught:
                    signs_in(value, many)
                self.assertIs(caught.exception.given, many)

    def test_equal_calls(self):
        for scene in some_scenes(104, 10):
            window = ((NIL, NIL), (ONE, ONE), 2)
            self.assertEqual(signs(scene, window), signs(scene, window))
            self.assertEqual(drawing(scene, window), drawing(scene, window))


if __name__ == "__main__":
    unittest.main()
