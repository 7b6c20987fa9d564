"""The whole interface as the document lists it, and point 2 over the whole program."""

import importlib
import inspect
import unittest

from houses import MOST

from wholedrops import errors
from wholedrops.alike import Alike, Parted, held, is_alike, is_parted, more
from wholedrops.book import Book
from wholedrops.bounds import Least, Most, load, worth
from wholedrops.desk import Desk
from wholedrops.jars import Draw, Jars, Pour, Put, Row
from wholedrops.lean import lean
from wholedrops.led import Led, NoneLed, is_led, led
from wholedrops.nets import has_room, has_start
from wholedrops.rounds import fate, turning
from wholedrops.rowtexts import read_row, row_text
from wholedrops.stands import behind
from wholedrops.trees import tree_of, ways

# Each module with its functions and its classes: the arguments in their order, those by name alone behind a star.
INTERFACE = {
    "errors": {
        "BadCount": "what count", "NoJar": "jar", "SameJar": "jar", "Sizes": "a b", "BadStart": "jar", "OtherJars": "",
        "Wide": "count", "NoName": "name", "NoRow": "name", "NoBack": "", "BadText": "place",
    },
    "jars": {
        "Jars": "sizes", "Pour": "a b", "Put": "a k", "Draw": "a k", "Change": "a b", "Row": "jars deeds", "Deed": None,
    },
    "stands": {"behind": "row start * parts=1 times=1"},
    "sums": {"Sum": "group more"},
    "bounds": {
        "Bound": None, "Most": "group number", "Least": "group number", "Apart": "ours theirs number",
        "load": "lot jar", "worth": "lot",
    },
    "nets": {"has_room": "jars bounds", "has_start": "jars bounds"},
    "trees": {
        "Tree": None, "Leaf": "sums", "Test": "deed group limit first second", "tree_of": "row", "ways": "jars tree",
    },
    "alike": {
        "Alike": "tree other lots", "Parted": "start jar total lots", "held": "row other",
        "is_alike": "row other paper", "is_parted": "row other paper", "more": "row other * jar",
    },
    "led": {"Led": "start total tree lots", "NoneLed": "tree lots", "led": "row wish", "is_led": "row wish paper"},
    "rounds": {"fate": "row start * parts=1", "Turning": None, "turning": "row"},
    "lean": {"lean": "row"},
    "book": {"Book": "jars"},
    "rowtexts": {"row_text": "row", "read_row": "jars text"},
    "desk": {"Desk": "jars"},
}
METHODS = {
    ("book", "Book"): {
        "keep": "name deeds", "drop": "name", "row": "name", "names": "", "claim": "name other", "claims": "",
        "shown": "", "against": "", "many": "", "back": "",
    },
    ("desk", "Desk"): {"tell": "row"},
}


def arguments(called):
    found = []
    for name, parameter in inspect.signature(called).parameters.items():
        if parameter.kind is inspect.Parameter.KEYWORD_ONLY and "*" not in found:
            found.append("*")
        found.append(name if parameter.default is inspect.Parameter.empty else f"{name}={parameter.default}")
    return " ".join(found)


class InterfaceTest(unittest.TestCase):
    def test_functions_and_classes(self):
        for place, names in INTERFACE.items():
            module = importlib.import_module("wholedrops." + place)
            for name, told in names.items():
                self.assertEqual(getattr(module, name).__module__, module.__name__, name)
                if told is not None and name not in ("OtherJars", "NoBack"):
                    self.assertEqual(arguments(getattr(module, name)), told, name)
        errors.OtherJars()
        errors.NoBack()

    def test_methods(self):
        for (place, kind), names in METHODS.items():
            own = vars(getattr(importlib.import_module("wholedrops." + place), kind))
            for name, told in names.items():
                self.assertEqual(arguments(own[name]), f"self {told}".strip(), name)


class HandedInTest(unittest.TestCase):
    """What is handed in is not changed, and what is told is the asker's own."""

    def setUp(self):
        self.jars = Jars([8, 5, 3])
        self.row = Row(self.jars, [Pour(0, 1), Pour(1, 2), Draw(2, 1)])
        self.other = Row(self.jars, [Pour(0, 1), Pour(1, 2), Draw(2, 2)])

    def unchanged(self):
        self.assertEqual(self.jars, Jars((8, 5, 3)))
        self.assertEqual(self.row, Row(Jars([8, 5, 3]), (Pour(0, 1), Pour(1, 2), Draw(2, 1))))
        self.assertEqual(self.other, Row(Jars([8, 5, 3]), (Pour(0, 1), Pour(1, 2), Draw(2, 2))))

    def test_rows(self):
        asked = (lambda: held(self.row, self.other), lambda: held(self.row, self.row), lambda: turning(self.row),
                 lambda: more(self.row, self.other, jar=2), lambda: lean(self.row), lambda: row_text(self.row),
                 lambda: tree_of(self.row), lambda: ways(self.jars, tree_of(self.row)), lambda: led(self.row, {2: 1}),
                 lambda: led(self.row, {2: 9}), lambda: fate(self.row, (8, 0, 0)), lambda: behind(self.row, (8, 0, 0)),
                 lambda: read_row(self.jars, "pour 0 1"))
        for ask in asked:
            told = ask()
            self.assertEqual(told, ask())
            self.unchanged()

    def test_lists_and_dicts(self):
        start, wish, bounds, deeds = [8, 0, 0], {2: 1, 0: 3}, [Least((0,), 9), Most((0, 1), 3)], [Pour(0, 1)]
        book = Book(self.jars)
        for ask in (lambda: behind(self.row, start, times=3), lambda: fate(self.row, start), lambda: led(self.row,
                                                                                                         wish),
                    lambda: has_room(self.jars, bounds), lambda: has_start(self.jars, bounds), lambda: worth(bounds),
                    lambda: load(bounds, 0), lambda: book.keep("a", deeds)):
            ask()
            self.assertEqual((start, wish, deeds), ([8, 0, 0], {2: 1, 0: 3}, [Pour(0, 1)]))
            self.assertEqual(bounds, [Least((0,), 9), Most((0, 1), 3)])

    def test_papers_that_are_looked_at(self):
        alike, parted = held(self.row, self.row), held(self.row, self.other)
        found, none = led(self.row, {2: 1}), led(self.row, {2: 9})
        self.assertEqual([paper.__class__ for paper in (alike, parted, found, none)], [Alike, Parted, Led, NoneLed])
        self.assertTrue(is_alike(self.row, self.row, alike))
        self.assertTrue(is_parted(self.row, self.other, parted))
        self.assertTrue(is_led(self.row, {2: 1}, found))
        self.assertTrue(is_led(self.row, {2: 9}, none))
        self.assertEqual((alike, parted), (held(self.row, self.row), held(self.row, self.other)))
        self.assertEqual((found, none), (led(self.row, {2: 1}), led(self.row, {2: 9})))
        self.unchanged()

    def test_a_row_that_a_book_and_a_desk_hold(self):
        book, desk = Book(self.jars), Desk(self.jars)
        book.keep("a", self.row.deeds)
        desk.tell("keep a " + row_text(self.row))
        for row in (book.row("a"), desk.book.row("a")):
            self.assertEqual(lean(row), lean(self.row))
            self.assertEqual(row, self.row)

    def test_kinds(self):
        self.assertIs(fate(self.row, [8, 0, 0]).__class__, tuple)
        self.assertIs(turning(self.row).late.__class__, tuple)
        self.assertIs(more(self.row, self.other, jar=2).__class__, tuple)
        self.assertIs(held(self.row, self.other).lots.__class__, dict)
        self.assertIs(led(self.row, {2: 1}).lots.__class__, list)
        for told in (is_alike(self.row, self.row, None), is_parted(self.row, self.other, None)):
            self.assertIs(told, False)


class ForEveryAmountTest(unittest.TestCase):
    """One row told of in every way, at sizes of 10 ** 12."""

    def test_large_jars(self):
        jars = Jars([MOST, MOST, 7])
        row = Row(jars, [Pour(0, 1), Put(2, 3), Draw(1, 5), Draw(1, 5)])
        other = lean(Row(jars, row.deeds + (Pour(0, 1), Draw(1, 10), Put(0, 1), Draw(0, 1))))
        paper = held(row, other)
        self.assertTrue(is_parted(row, other, paper))
        self.assertNotEqual(behind(row, paper.start), behind(other, paper.start))
        self.assertIs(held(row, Row(jars, [Put(2, 3), Pour(0, 1), Draw(1, 10)])).__class__, Alike)
        self.assertEqual(led(row, {1: MOST - 10, 0: 4}).total, MOST + 4)
        self.assertIs(led(row, {1: MOST - 9}).__class__, NoneLed)
        self.assertEqual(read_row(jars, row_text(row)), row)


if __name__ == "__main__":
    unittest.main()
