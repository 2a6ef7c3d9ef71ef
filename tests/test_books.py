"""Books: deeds right and refused, undone and redone; what is kept and answered beside new books made from nothing."""

import copy
import random
import unittest
from fractions import Fraction

from helping import NIL, ONE, TWO, WRONG_FRACTIONS, WRONG_NAMES, pair_of, scene_of
from latestshake.books import Book
from latestshake.candidates import candidates, fits, latest
from latestshake.errors import (InUse, InvalidFraction, InvalidName, InvalidReading, InvalidSide, NoStation, NothingToRedo,
                                NothingToUndo, SamePlace, Taken, TooMany, Unknown)
from latestshake.numbers import compared
from latestshake.points import number_of, ordered
from latestshake.scenes import is_let, is_scene, rows_of, states_at
from latestshake.wrong import least_lots

TWELVE = "abcdefghijkl"
WRONG_LABELS = [*WRONG_NAMES, None, 7, "R", "r1"]
# Just the words themselves are no names.
RIGHT_NAMES = ["a", "z", "stations", "abcdefghijkl", "heardd", "ups", "sid"]


def put(book, *deeds):
    for name, *told in deeds:
        getattr(book, name)(*[pair_of(part) if isinstance(part, (int, Fraction)) else part for part in told])
    return book


def small_book():
    return put(Book(), ("put_station", "b", 6, 0), ("put_station", "a", 0, 0), ("put_reading", "r", "a", 0, 5),
               ("put_reading", "q", "b", 1, 5), ("put_side", "s", 0, -1, -4))


def told_by(book):
    """All that a book tells of what it has, and of its steps."""
    answers = ()
    if book.scene() is not None:
        answers = (book.fits(), book.latest(), book.least_wrong())
    return book.scene(), book.labels(), book.kept(), book.work(), book.steps(), answers


class Model:
    """A second book: dicts of what there is, copied ahead of each step."""

    def __init__(self):
        self.now, self.past, self.undone = ({}, {}, {}), [], []

    def step(self, kind, name, row):
        self.past.append(copy.deepcopy(self.now))
        self.undone = []
        if row is None:
            del self.now[kind][name]
        else:
            self.now[kind][name] = row

    def undo(self):
        self.undone.append(self.now)
        self.now = self.past.pop()

    def redo(self):
        self.past.append(self.now)
        self.now = self.undone.pop()

    def labels(self):
        return tuple(sorted(self.now[1])), tuple(sorted(self.now[2]))

    def scene(self):
        stations, readings, sides = self.now
        if not stations:
            return None
        return (tuple((name, *stations[name]) for name in sorted(stations)), tuple(readings[label] for label in sorted(readings)),
                tuple(sides[label] for label in sorted(sides)))

    def named(self):
        """By kind and label, what each row of the scene tells: the place of its station and its moment, or its numbers."""
        scene, labels = self.scene(), self.labels()
        if scene is None:
            return []
        places = {name: place for name, *place in scene[0]}
        found = []
        for kind, index in rows_of(scene):
            if kind == "side":
                found.append(((kind, labels[1][index]), scene[2][index]))
            else:
                name, low, high = scene[1][index]
                found.append(((kind, labels[0][index]), (*places[name], low if kind == "low" else high)))
        return found


def work_between(ahead, behind):
    """The work of a step, from the candidates of the scene ahead and of the one behind it."""
    if behind.scene() is None:
        return (0, 0, 0)
    new, told = behind.named(), candidates(behind.scene())
    if ahead.scene() is None or not ahead.scene()[1] or not behind.scene()[1]:
        return (0, len(told), len(told) * len(new))
    old = ahead.named()
    stay = [name for name, numbers in old if (name, numbers) in new]
    fresh = [name for name, numbers in new if (name, numbers) not in old]
    stayed = len([rows for rows, _ in candidates(ahead.scene()) if all(old[index][0] in stay for index in rows)])
    return (stayed, len(told) - stayed, stayed * len(fresh) + (len(told) - stayed) * len(new))


class Beside:
    """A book and a model that get the same deeds."""

    def __init__(self, test):
        self.test, self.book, self.model = test, Book(), Model()

    def do(self, deed, *told):
        """A deed that is right; undo and redo where there is something to undo or redo."""
        ahead = copy.deepcopy(self.model)
        if deed in ("undo", "redo"):
            getattr(self.model, deed)()
        elif deed == "put_station":
            self.model.step(0, told[0], told[1:])
        elif deed == "strike_station":
            self.model.step(0, told[0], None)
        elif deed == "put_reading":
            self.model.step(1, told[0], told[1:])
        elif deed == "put_side":
            self.model.step(2, told[0], told[1:])
        else:
            self.model.step(1 if told[0] in self.model.now[1] else 2, told[0], None)
        self.test.assertIsNone(getattr(self.book, deed)(*told))
        self.check()
        self.test.assertEqual(self.book.work(), work_between(ahead, self.model), (deed, told))

    def check(self):
        test, book, scene, labels = self.test, self.book, self.model.scene(), self.model.labels()
        test.assertEqual((book.scene(), book.labels(), book.steps()), (scene, labels, len(self.model.past)))
        if scene is None:
            test.assertEqual(book.kept(), ())
            for answer in (book.fits, book.latest, book.least_wrong):
                with test.assertRaises(NoStation):
                    answer()
            return
        test.assertTrue(is_scene(scene))
        kept = book.kept()
        test.assertIsInstance(kept, tuple)
        test.assertEqual(tuple((rows, value) for rows, value, _ in kept), candidates(scene))
        for _, value, broken in kept:
            test.assertEqual(broken, tuple(index for index, state in enumerate(states_at(scene, value)) if state == "broken"))
        test.assertIs(book.fits(), fits(scene))
        last, right = book.latest(), latest(scene)
        test.assertEqual(last is None, right is None)
        if last is not None:
            test.assertTrue(is_let(scene, last))
            test.assertEqual(compared(number_of(last, "t"), number_of(right, "t")), 0)
        test.assertEqual(book.least_wrong(), tuple(tuple(labels[0][index] for index in lot) for lot in least_lots(scene)))

    def anew(self):
        """A new book that gets what there is from nothing tells the same."""
        stations, readings, sides = self.model.now
        book, rows = Book(), [("put_station", name, *row) for name, row in stations.items()]
        rows += [("put_reading", label, *row) for label, row in readings.items()] if stations else []
        rows += [("put_side", label, *row) for label, row in sides.items()]
        put(book, *rows)
        self.test.assertEqual((book.scene(), book.labels(), book.kept()), (self.book.scene(), self.book.labels(), self.book.kept()))
        if book.scene() is not None:
            told = [(one.fits(), one.latest(), one.least_wrong()) for one in (book, self.book)]
            self.test.assertEqual(told[0], told[1])


def some_deed(chance, model, most=4):
    """A deed that is right, of a few names and labels."""
    stations, readings, sides = model.now
    number = lambda low, high: pair_of(Fraction(chance.randint(low, high), chance.choice([1, 1, 2])))
    while True:
        deed = chance.choice(["put_station", "strike_station", "put_reading", "put_reading", "put_reading", "put_side", "strike",
                              "undo", "undo", "redo"])
        if deed == "undo" and model.past or deed == "redo" and model.undone:
            return (deed,)
        if deed == "put_station" and len(stations) < most:
            place = (number(-3, 3), number(-3, 3))
            name = chance.choice("abcd")
            if all(other == name or row != place for other, row in stations.items()):
                return (deed, name, *place)
        if deed == "strike_station":
            free = [name for name in stations if name not in [row[0] for row in readings.values()]]
            if free:
                return (deed, chance.choice(free))
        if deed == "put_reading" and stations:
            label = chance.choice([label for label in "pqrs" if label not in sides] or [None])
            low = number(-2, 4)
            ends = chance.choice([(low, pair_of(Fraction(*low) + chance.choice([0, 1, 3])))] * 3 + [(low, None), (None, low)])
            if label:
                return (deed, label, chance.choice(sorted(stations)), *ends)
        if deed == "put_side":
            label = chance.choice([label for label in "rstu" if label not in readings] or [None])
            u, v = chance.choice([(u, v) for u in range(-1, 2) for v in range(-1, 2) if u or v])
            if label:
                return (deed, label, pair_of(u), pair_of(v), number(-3, 5))
        if deed == "strike" and (readings or sides):
            return (deed, chance.choice(sorted([*readings, *sides])))


class Answers(unittest.TestCase):
    def test_any_rows_of_deeds(self):
        works = set()
        for seed in range(24):
            chance, beside = random.Random(seed), Beside(self)
            self.assertIsNone(beside.book.work())
            for _ in range(45):
                beside.do(*some_deed(chance, beside.model))
                works.add(beside.book.work())
            beside.anew()
        self.assertGreater(len([work for work in works if work[0] and work[1]]), 60)

    def test_undoing_all_and_redoing(self):
        for seed in range(40, 52):
            chance, beside = random.Random(seed), Beside(self)
            for _ in range(12):
                beside.do(*some_deed(chance, beside.model))
            told, many = told_by(beside.book), beside.book.steps()
            ways = [told_by(beside.book)]
            for _ in range(many):
                beside.do("undo")
                ways.append(told_by(beside.book))
            self.assertEqual(told_by(beside.book)[:3], (None, ((), ()), ()))
            self.assertEqual(beside.book.steps(), 0)
            with self.assertRaises(NothingToUndo):
                beside.book.undo()
            for way in ways[-2::-1]:
                beside.do("redo")
                again = told_by(beside.book)
                self.assertEqual(again[:3] + again[4:], way[:3] + way[4:])
            self.assertEqual(told_by(beside.book)[:3], told[:3])

    def test_work_by_kinds_of_steps(self):
        beside = Beside(self)
        do = lambda name, *told: beside.do(name, *[pair_of(part) if isinstance(part, int) else part for part in told])
        work = lambda: beside.book.work()
        self.assertIsNone(work())
        do("put_side", "s", 1, 0, 5)
        self.assertEqual(work(), (0, 0, 0))
        do("put_station", "a", 0, 0)
        self.assertEqual(work(), (0, 2, 2))
        do("put_station", "b", 3, 4)
        self.assertEqual(work(), (0, 2, 2))
        do("put_side", "u", 0, 1, 9)
        # The reading more by itself, with each side, with both.
        self.assertEqual(work(), (0, 4, 8))
        do("put_reading", "r", "a", 0, 2)
        # High and low by themselves, with each side, with both; both with a side: t is 1, which is above LOW.
        self.assertEqual(work(), (0, 8, 32))
        do("put_station", "c", 9, 9)
        self.assertEqual(work(), (8, 0, 0))
        do("strike_station", "c")
        self.assertEqual(work(), (8, 0, 0))
        do("put_reading", "r", "a", 0, 2)
        self.assertEqual(work(), (8, 0, 0))
        do("put_side", "s", 1, 0, 5)
        self.assertEqual(work(), (8, 0, 0))
        do("put_reading", "r", "a", 0, 3)
        # The low one's stay: by itself, with each side, with both; the others are made.
        self.assertEqual(work(), (4, 4, 4 * 1 + 4 * 4))
        do("put_reading", "r", "a", 0, None)
        self.assertEqual(work(), (4, 0, 0))
        do("put_reading", "r", "a", 1, None)
        self.assertEqual(work(), (0, 4, 12))
        do("put_side", "u", 0, 2, 18)
        # The same places within, but another (U, V).
        self.assertEqual(work(), (2, 2, 2 + 2 * 3))
        do("put_reading", "q", "b", None, 30)
        self.assertEqual(work()[0], 4)
        do("put_station", "b", 3, 5)
        self.assertEqual(work()[0], 4)
        do("strike", "q")
        self.assertEqual(work(), (4, 0, 0))
        do("undo")
        do("redo")
        self.assertEqual(work(), (4, 0, 0))
        do("strike", "r")
        self.assertEqual(work(), (0, 4, 8))
        do("undo")
        self.assertEqual(work(), (0, 4, 12))
        do("redo")
        do("strike_station", "b")
        self.assertEqual(work(), (0, 4, 8))
        do("strike_station", "a")
        self.assertEqual(work(), (0, 0, 0))
        do("strike", "s")
        self.assertEqual(work(), (0, 0, 0))
        do("undo")
        do("undo")
        self.assertEqual(work(), (0, 4, 8))

    def test_a_reading_put_for_another_station(self):
        beside = Beside(self)
        for deed in [("put_station", "a", NIL, NIL), ("put_station", "b", ONE, NIL), ("put_reading", "r", "a", ONE, TWO),
                     ("put_reading", "q", "b", ONE, None), ("put_reading", "r", "b", ONE, TWO), ("put_reading", "r", "a", ONE, TWO)]:
            beside.do(*deed)
        # The rows of r are fresh each time, that of q stays.
        self.assertEqual(beside.book.work()[0], 1)
        beside.do("put_station", "a", NIL, ONE)
        self.assertEqual(beside.book.work()[0], 1)
        beside.do("put_reading", "p", "a", ONE, TWO)
        # Ahead of the others by its label: their indexes change, they themselves do not.
        self.assertGreater(beside.book.work()[0], 3)

    def test_a_full_book(self):
        book = Book()
        for index, name in enumerate(TWELVE):
            put(book, ("put_station", name, index * index, 3 * index - 7))
        for index, name in enumerate(TWELVE):
            put(book, ("put_reading", name, name, *[Fraction(part) for part in (index, index + 20)]))
        for index, label in enumerate("mnopqrst"):
            put(book, ("put_side", label, index - 3, 1, 40 + index))
        self.assertEqual(book.steps(), 32)
        self.assertEqual(tuple((rows, value) for rows, value, _ in book.kept()), candidates(book.scene()))
        told = told_by(book)
        for error, given, call in [
            (TooMany, "z", lambda: put(book, ("put_station", "z", 900, 900))),
            (TooMany, "z", lambda: put(book, ("put_reading", "z", "a", 0, 1))),
            (TooMany, "z", lambda: put(book, ("put_side", "z", 1, 1, 0))),
            # What is told ahead of it.
            (SamePlace, "a", lambda: put(book, ("put_station", "z", 0, -7))),
            (Taken, "m", lambda: put(book, ("put_reading", "m", "a", 0, 1))),
            (Unknown, "z", lambda: put(book, ("put_reading", "y", "z", 0, 1))),
            (Taken, "a", lambda: put(book, ("put_side", "a", 1, 1, 0))),
        ]:
            self.refused(error, given, call)
            self.assertEqual(told_by(book), told)
        # A put in the place of what is there is none too many.
        put(book, ("put_station", "a", 900, 900), ("put_reading", "l", "a", 0, 1), ("put_side", "t", 1, 1, 0))
        self.assertEqual(book.steps(), 35)
        put(book, ("strike", "l"), ("strike", "t"))
        put(book, ("put_reading", "z", "a", 0, 1), ("put_side", "l", 1, 1, 0))
        self.refused(TooMany, "t", lambda: put(book, ("put_side", "t", 1, 1, 0)))
        self.assertEqual(tuple((rows, value) for rows, value, _ in book.kept()), candidates(book.scene()))

    def refused(self, error, given, call):
        with self.assertRaises(error) as caught:
            call()
        self.assertIs(caught.exception.__class__, error)
        if given is not None:
            self.assertEqual(caught.exception.given, given)

    def test_empty(self):
        book = Book()
        self.assertEqual((book.scene(), book.labels(), book.kept(), book.work(), book.steps()), (None, ((), ()), (), None, 0))
        for error, given, call in [
            (Unknown, "a", lambda: book.strike_station("a")), (Unknown, "a", lambda: book.strike("a")),
            (Unknown, "a", lambda: book.put_reading("r", "a", NIL, ONE)), (NothingToUndo, None, book.undo),
            (NothingToRedo, None, book.redo), (NoStation, None, book.fits), (NoStation, None, book.latest),
            (NoStation, None, book.least_wrong),
        ]:
            self.refused(error, given, call)
        self.assertEqual((book.scene(), book.labels(), book.kept(), book.work(), book.steps()), (None, ((), ()), (), None, 0))
        self.assertEqual(vars(NoStation()), {})
        put(book, ("put_side", "s", 1, 0, 0))
        self.assertEqual((book.scene(), book.labels(), book.kept(), book.work(), book.steps()), (None, ((), ("s",)), (), (0, 0, 0), 1))
        self.refused(NoStation, None, book.fits)

    def test_books_are_apart(self):
        one, other = small_book(), small_book()
        one.strike("r")
        self.assertEqual(other.labels(), (("q", "r"), ("s",)))
        self.assertEqual(one.labels(), (("q",), ("s",)))
        self.assertEqual((one.steps(), other.steps()), (6, 5))


class Deeds(unittest.TestCase):
    def refused(self, book, error, given, call, *told):
        ahead = told_by(book)
        with self.assertRaises(error) as caught:
            call(*told)
        self.assertIs(caught.exception.__class__, error)
        self.assertEqual(vars(caught.exception), {} if given is None else {"given": given})
        self.assertEqual(told_by(book), ahead)

    def test_order(self):
        book = put(Book(), ("put_station", "c", 5, 5), ("put_station", "a", 1, 1), ("put_station", "b", 3, 3))
        self.assertEqual([row[0] for row in book.scene()[0]], ["a", "b", "c"])
        put(book, ("put_reading", "z", "a", 0, None), ("put_reading", "m", "c", None, 7), ("put_reading", "mm", "b", 1, 7),
            ("put_side", "y", 1, 2, 3), ("put_side", "b", 0, 1, 3), ("put_side", "ya", 1, 0, 3))
        self.assertEqual(book.labels(), (("m", "mm", "z"), ("b", "y", "ya")))
        self.assertEqual(book.scene(), scene_of(
            [("a", 1, 1), ("b", 3, 3), ("c", 5, 5)], [("c", None, 7), ("b", 1, 7), ("a", 0, None)], [(0, 1, 3), (1, 2, 3), (1, 0, 3)]))
        put(book, ("put_reading", "m", "a", 2, 3), ("put_side", "b", 1, 1, 1), ("put_station", "a", 0, 0))
        self.assertEqual(book.scene(), scene_of(
            [("a", 0, 0), ("b", 3, 3), ("c", 5, 5)], [("a", 2, 3), ("b", 1, 7), ("a", 0, None)], [(1, 1, 1), (1, 2, 3), (1, 0, 3)]))
        put(book, ("strike", "mm"), ("strike", "y"), ("strike_station", "b"))
        self.assertEqual(book.labels(), (("m", "z"), ("b", "ya")))
        self.assertEqual(book.steps(), 15)

    def test_labels_are_kept_apart(self):
        book = small_book()
        # A label may be a station's name, but not that of a reading and of a side.
        put(book, ("put_reading", "a", "b", 0, 1), ("put_side", "b", 1, 0, 1))
        self.refused(book, Taken, "a", lambda: put(book, ("put_side", "a", 1, 0, 1)))
        self.refused(book, Taken, "b", lambda: put(book, ("put_reading", "b", "a", 0, 1)))
        self.refused(book, Taken, "s", lambda: put(book, ("put_reading", "s", "nobody", 0, 1)))
        put(book, ("strike", "a"), ("put_side", "a", 1, 0, 1), ("strike", "b"), ("put_reading", "b", "a", 0, 1))
        self.assertEqual(book.labels(), (("b", "q", "r"), ("a", "s")))
        self.refused(book, Unknown, "nobody", lambda: put(book, ("strike", "nobody")))
        put(book, ("strike", "b"))
        self.refused(book, Unknown, "b", lambda: put(book, ("strike", "b")))

    def test_stations(self):
        book = small_book()
        self.refused(book, SamePlace, "a", lambda: put(book, ("put_station", "b", 0, 0)))
        self.refused(book, SamePlace, "a", lambda: put(book, ("put_station", "c", 0, 0)))
        put(book, ("put_station", "a", 0, 0), ("put_station", "a", 0, 1), ("put_station", "c", 0, 0))
        self.refused(book, SamePlace, "c", lambda: put(book, ("put_station", "a", 0, 0)))
        self.refused(book, InUse, "r", lambda: put(book, ("strike_station", "a")))
        put(book, ("put_reading", "k", "a", 0, 1), ("put_reading", "z", "a", 0, 1))
        self.refused(book, InUse, "k", lambda: put(book, ("strike_station", "a")))
        self.refused(book, Unknown, "d", lambda: put(book, ("strike_station", "d")))
        put(book, ("strike_station", "c"), ("put_reading", "k", "b", 0, 1), ("strike", "z"))
        self.refused(book, InUse, "r", lambda: put(book, ("strike_station", "a")))
        put(book, ("strike", "r"), ("strike_station", "a"))
        self.assertEqual([row[0] for row in book.scene()[0]], ["b"])
        # Put anew at a place where it stood ahead of another one.
        put(book, ("put_station", "a", 6, 1))
        self.refused(book, SamePlace, "b", lambda: put(book, ("put_station", "a", 6, 0)))
        put(book, ("put_station", "b", 7, 0), ("put_station", "a", 6, 0))

    def test_undo_and_redo(self):
        book = small_book()
        self.refused(book, NothingToRedo, None, book.redo)
        scenes = [book.scene()]
        for _ in range(4):
            self.assertIsNone(book.undo())
            scenes.append(book.scene())
        self.assertEqual([scene and len(scene[1]) + len(scene[2]) for scene in scenes], [3, 2, 1, 0, 0])
        self.assertEqual(book.steps(), 1)
        self.assertIsNone(book.redo())
        self.assertEqual(book.scene(), scenes[3])
        # A new step: what was undone ahead of it is gone.
        put(book, ("put_side", "t", 1, 0, 0))
        self.refused(book, NothingToRedo, None, book.redo)
        book.undo()
        self.assertEqual(book.scene(), scenes[3])
        # A refused deed is no step: what was undone can still be redone.
        self.refused(book, Unknown, "nobody", lambda: book.strike("nobody"))
        self.refused(book, InvalidName, "9", lambda: book.strike("9"))
        book.redo()
        self.assertEqual(book.labels(), ((), ("t",)))
        self.refused(book, NothingToRedo, None, book.redo)
        # A step that changes nothing is a step, too.
        put(book, ("put_side", "t", 1, 0, 0))
        self.assertEqual(book.steps(), 4)
        book.undo()
        self.assertEqual((book.steps(), book.labels()), (3, ((), ("t",))))
        put(book, ("put_side", "t", 1, 0, 0))
        self.refused(book, NothingToRedo, None, book.redo)

    def test_by_name(self):
        book = Book()
        self.assertIsNone(book.put_station(y=NIL, name="a", x=ONE))
        self.assertIsNone(book.put_reading(high=ONE, low=None, name="a", label="r"))
        self.assertIsNone(book.put_side(c=TWO, v=NIL, u=ONE, label="s"))
        self.assertEqual(book.scene(), scene_of([("a", 1, 0)], [("a", None, 1)], [(1, 0, 2)]))
        self.assertIsNone(book.strike(label="r"))
        self.assertIsNone(book.strike_station(name="a"))
        self.assertIsNone(book.scene())

    def wrong(self, name, right, told):
        """Each argument wrong in turn, by itself and with those behind it; told: name, error, wrong values, wrong one behind."""
        for index, (_, error, values, _) in enumerate(told):
            for value in values:
                for behind in (list(right[index + 1:]), [row[3] for row in told[index + 1:]]):
                    book = small_book()
                    arguments = [*right[:index], value, *behind]
                    names = [row[0] for row in told]
                    for call in (lambda: getattr(book, name)(*arguments),
                                 lambda: getattr(book, name)(**dict(reversed(list(zip(names, arguments)))))):
                        ahead = told_by(book)
                        with self.assertRaises(error) as caught:
                            call()
                        self.assertIs(caught.exception.__class__, error)
                        self.assertIs(caught.exception.given, value)
                        self.assertEqual(told_by(book), ahead)

    def test_refusals(self):
        name = ("name", InvalidName, WRONG_LABELS, "A")
        label = ("label", InvalidName, WRONG_LABELS, "A")
        self.wrong("put_station", ["z", ONE, ONE], [
            name, ("x", InvalidFraction, WRONG_FRACTIONS, None), ("y", InvalidFraction, WRONG_FRACTIONS, None)])
        self.wrong("strike_station", ["a"], [name])
        self.wrong("strike", ["r"], [label])
        self.wrong("put_reading", ["z", "a", NIL, ONE], [label, name, ("low", InvalidReading, [], ONE), ("high", InvalidReading, [], NIL)])
        self.wrong("put_side", ["z", NIL, ONE, ONE], [
            label, ("u", InvalidSide, [], None), ("v", InvalidSide, [], None), ("c", InvalidSide, [], 7)])

    def test_wrong_readings(self):
        ends = [(value, ONE) for value in WRONG_FRACTIONS if value is not None]
        ends += [(ONE, value) for value in WRONG_FRACTIONS if value is not None]
        ends += [(None, None), (TWO, ONE), (ONE, NIL), ((1, 10 ** 300), NIL), ((-1, 3), (-1, 2)), (ONE, (999, 1000))]
        for low, high in ends:
            # Whatever the label and the name are beside this, if they are names.
            for label, name in (("z", "a"), ("s", "a"), ("z", "nobody"), ("r", "b")):
                book = small_book()
                for call in (lambda: book.put_reading(label, name, low, high),
                             lambda: book.put_reading(high=high, low=low, name=name, label=label)):
                    with self.assertRaises(InvalidReading) as caught:
                        call()
                    given = caught.exception.given
                    self.assertEqual((type(given), len(given)), (tuple, 2))
                    self.assertIs(given[0], low)
                    self.assertIs(given[1], high)
                self.assertEqual(book.steps(), 5)

    def test_wrong_sides(self):
        sides = [(value, ONE, ONE) for value in WRONG_FRACTIONS] + [(ONE, value, ONE) for value in WRONG_FRACTIONS]
        sides += [(ONE, ONE, value) for value in WRONG_FRACTIONS] + [(NIL, NIL, ONE), (NIL, NIL, NIL)]
        for side in sides:
            for label in ("z", "r", "s"):
                book = small_book()
                for call in (lambda: book.put_side(label, *side), lambda: book.put_side(c=side[2], v=side[1], u=side[0], label=label)):
                    with self.assertRaises(InvalidSide) as caught:
                        call()
                    given = caught.exception.given
                    self.assertEqual((type(given), len(given)), (tuple, 3))
                    self.assertTrue(all(one is other for one, other in zip(given, side)))
                self.assertEqual(book.steps(), 5)

    def test_right_names(self):
        book = Book()
        for index, name in enumerate(RIGHT_NAMES):
            put(book, ("put_station", name, index, 0), ("put_reading", name, name, 0, 1))
        self.assertEqual(book.labels()[0], tuple(sorted(RIGHT_NAMES)))

    def test_what_is_told_last(self):
        """Errors in what is there come behind those in the arguments, in the order told."""
        book = small_book()
        self.refused(book, InvalidName, "B", lambda: book.put_station("B", NIL, NIL))
        self.refused(book, InvalidFraction, 0, lambda: book.put_station("c", NIL, 0))
        self.refused(book, Taken, "s", lambda: book.put_reading("s", "nobody", NIL, ONE))
        self.refused(book, Unknown, "nobody", lambda: book.put_reading("r", "nobody", NIL, ONE))

    def test_great_numbers(self):
        book, far = Book(), (10 ** 300, 7)
        put(book, ("put_station", "a", far, NIL), ("put_station", "b", NIL, far), ("put_reading", "r", "a", far, None),
            ("put_reading", "q", "b", None, far))
        self.assertIs(book.fits(), True)
        self.assertEqual(ordered(book.latest(), latest(book.scene())), 0)


if __name__ == "__main__":
    unittest.main()
