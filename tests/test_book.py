"""Points 2 and 18, and the interface of wholedrops/book.py."""

import random
import unittest

from houses import MOST, Refusing, all_deeds, all_starts, by_ones

from wholedrops import book as module
from wholedrops.book import Book
from wholedrops.errors import BadCount, DropsError, NoBack, NoJar, NoName, NoRow, SameJar, Sizes, Wide
from wholedrops.jars import Change, Draw, Jars, Pour, Put, Row
from wholedrops.stands import behind

METHODS = ("keep", "drop", "row", "names", "claim", "claims", "shown", "against", "many", "back")


def all_of(book):
    """All that a book tells."""
    rows = [(name, book.row(name)) for name in book.names()]
    return rows, book.claims(), book.shown(), book.against(), book.many()


class Books(Refusing):
    def setUp(self):
        self.jars = Jars([3, 2, 3])
        self.book = Book(self.jars)
        # a, b and c are alike; d is unlike them, and alike to e.
        self.deeds = {
            "a": [Pour(0, 1)], "b": [Pour(0, 1), Pour(0, 1)], "c": [Pour(0, 1), Pour(1, 0), Pour(0, 1)],
            "d": [], "e": [Change(0, 2), Change(0, 2)],
        }

    def kept(self, names):
        for name in names:
            self.book.keep(name, self.deeds[name])

    def unchanged(self, refusal, fields, call, *given):
        before = all_of(self.book)
        self.refused(refusal, fields, call, *given)
        self.assertEqual(all_of(self.book), before)


class InterfaceTest(Books):
    def test_the_class_and_its_own_methods(self):
        self.defined(module, ("Book",), ())
        for name in METHODS:
            self.assertIn(name, vars(Book))

    def test_arguments_by_name(self):
        book = Book(jars=self.jars)
        book.keep(deeds=self.deeds["a"], name="a")
        book.keep(name="d", deeds=())
        self.assertIs(book.claim(other="d", name="a"), False)
        self.assertEqual(book.row(name="a"), Row(self.jars, self.deeds["a"]))
        book.drop(name="a")
        self.assertEqual(book.names(), ["d"])

    def test_a_new_book(self):
        self.assertEqual(all_of(self.book), ([], [], [], [], 0))


class RowsTest(Books):
    def test_keep_and_row(self):
        self.kept("ba")
        self.assertEqual(self.book.names(), ["a", "b"])
        for name in "ab":
            row = self.book.row(name)
            self.assertIs(row.__class__, Row)
            self.assertEqual(row, Row(self.jars, self.deeds[name]))

    def test_keep_in_the_place_of_an_elder_one(self):
        self.kept("ab")
        self.book.keep("a", [Put(0, 1)])
        self.assertEqual(self.book.names(), ["a", "b"])
        self.assertEqual(self.book.row("a"), Row(self.jars, [Put(0, 1)]))
        self.assertEqual(self.book.row("b"), Row(self.jars, self.deeds["b"]))

    def test_drop(self):
        self.kept("abc")
        self.book.drop("b")
        self.assertEqual(self.book.names(), ["a", "c"])
        self.unchanged(NoRow, {"name": "b"}, self.book.row, "b")
        self.unchanged(NoRow, {"name": "b"}, self.book.drop, "b")

    def test_a_list_or_a_tuple_will_do_and_is_free_of_the_book(self):
        deeds = [Pour(0, 1)]
        self.book.keep("a", deeds)
        self.book.keep("b", tuple(deeds))
        deeds.append(Put(0, 1))
        self.assertEqual(self.book.row("a"), Row(self.jars, [Pour(0, 1)]))
        self.assertEqual(self.book.row("b"), Row(self.jars, [Pour(0, 1)]))

    def test_names(self):
        for name in ("a", "z", "a1", "a0000000", "abcdefgh", "z9z9z9z9", "keep", "none"):
            self.book.keep(name, [])
        self.assertEqual(self.book.names(), sorted(("a", "z", "a1", "a0000000", "abcdefgh", "z9z9z9z9", "keep",
                                                    "none")))

    def test_no_names(self):
        wrong = ("", "abcdefghi", "a12345678", "1", "1a", "A", "aB", "a b", " a", "a ", "a_b", "a-b", "a.b", "{", "`",
                 "a{")
        for name in wrong + ("_", "a`", "a/", "a:", "0", "a" * 1000, "9" * 8):
            self.unchanged(NoName, {"name": name}, self.book.keep, name, [])
            self.unchanged(NoRow, {"name": name}, self.book.row, name)
            self.unchanged(NoRow, {"name": name}, self.book.drop, name)
            self.unchanged(NoRow, {"name": name}, self.book.claim, name, name)

    def test_eight_rows_and_nine(self):
        for name in "abcdefgh":
            self.book.keep(name, [])
        self.unchanged(BadCount, {"what": "rows", "count": 9}, self.book.keep, "i", [])
        self.book.keep("h", [Put(0, 1)])
        self.assertEqual(self.book.row("h"), Row(self.jars, [Put(0, 1)]))
        self.book.drop("a")
        self.book.keep("i", [])
        self.assertEqual(self.book.names(), list("bcdefghi"))
        self.unchanged(BadCount, {"what": "rows", "count": 9}, self.book.keep, "a", [])

    def test_which_refusal_comes_first(self):
        for name in "abcdefgh":
            self.book.keep(name, [])
        self.unchanged(NoName, {"name": "1"}, self.book.keep, "1", [Pour(9, 9)] * 21)
        self.unchanged(BadCount, {"what": "rows", "count": 9}, self.book.keep, "i", [Pour(9, 9)] * 21)
        self.unchanged(BadCount, {"what": "deeds", "count": 21}, self.book.keep, "h", [Pour(9, 9)] * 21)
        self.unchanged(NoJar, {"jar": 9}, self.book.keep, "h", [Pour(9, 9), Put(0, 0)])
        self.unchanged(SameJar, {"jar": 1}, self.book.keep, "h", [Pour(1, 1), Put(0, 0)])
        self.unchanged(BadCount, {"what": "much", "count": 0}, self.book.keep, "h", [Put(0, 0)])
        self.unchanged(Sizes, {"a": 0, "b": 1}, self.book.keep, "h", [Change(0, 1)])

    def test_two_books(self):
        other = Book(self.jars)
        self.kept("ab")
        other.keep("a", [])
        self.book.claim("a", "b")
        self.assertEqual(other.names(), ["a"])
        self.assertEqual((other.claims(), other.many()), ([], 1))


class ClaimsTest(Books):
    def test_true_and_false(self):
        self.kept("abd")
        self.assertIs(self.book.claim("a", "b"), True)
        self.assertIs(self.book.claim("a", "d"), False)
        self.assertEqual(self.book.claims(), [("a", "b", True), ("a", "d", False)])

    def test_either_order_is_one(self):
        self.kept("abd")
        self.assertIs(self.book.claim("b", "a"), True)
        self.assertIs(self.book.claim("d", "b"), False)
        self.assertEqual(self.book.claims(), [("a", "b", True), ("b", "d", False)])
        many = self.book.many()
        self.assertIs(self.book.claim("a", "b"), True)
        self.assertIs(self.book.claim("b", "d"), False)
        self.assertEqual(self.book.claims(), [("a", "b", True), ("b", "d", False)])
        self.assertEqual(self.book.many(), many)

    def test_of_one_name_twice(self):
        self.kept("ad")
        self.assertIs(self.book.claim("d", "d"), True)
        self.assertIs(self.book.claim("a", "a"), True)
        self.assertEqual(self.book.claims(), [("a", "a", True), ("d", "d", True)])
        self.assertEqual((self.book.shown(), self.book.against(), self.book.many()), ([], [], 4))

    def test_of_rows_that_are_the_same(self):
        self.book.keep("a", [Pour(0, 1)])
        self.book.keep("b", [Pour(0, 1)])
        self.assertIs(self.book.claim("a", "b"), True)

    def test_refusals(self):
        self.kept("ad")
        self.unchanged(NoRow, {"name": "x"}, self.book.claim, "x", "a")
        self.unchanged(NoRow, {"name": "x"}, self.book.claim, "a", "x")
        self.unchanged(NoRow, {"name": "y"}, self.book.claim, "y", "x")
        self.unchanged(NoRow, {"name": "y"}, self.book.claim, "y", "y")

    def test_refused_as_held(self):
        book = self.book = Book(Jars([9, 9]))
        book.keep("wide", by_ones(9, 4, 4).deeds)
        book.keep("fine", by_ones(9, 3, 5).deeds)
        for pair in (("wide", "fine"), ("fine", "wide"), ("wide", "wide")):
            self.unchanged(Wide, {"count": 25}, book.claim, *pair)
        self.unchanged(NoRow, {"name": "x"}, book.claim, "wide", "x")
        self.assertIs(book.claim("fine", "fine"), True)

    def test_a_claim_goes_with_its_rows(self):
        self.kept("abd")
        for pair in ("ab", "ad", "bd", "aa", "bb"):
            self.book.claim(*pair)
        self.book.keep("a", [Put(0, 1)])
        self.assertEqual(self.book.claims(), [("b", "b", True), ("b", "d", False)])
        self.book.drop("d")
        self.assertEqual(self.book.claims(), [("b", "b", True)])
        self.book.keep("d", [])
        self.assertEqual(self.book.claims(), [("b", "b", True)])
        self.assertIs(self.book.claim("a", "b"), False)

    def test_a_row_that_is_kept_anew_and_alike(self):
        self.kept("ab")
        self.book.claim("a", "b")
        self.book.keep("a", self.deeds["c"])
        self.assertEqual(self.book.claims(), [])
        self.assertIs(self.book.claim("a", "b"), True)

    def test_what_changes_nothing(self):
        self.kept("abd")
        self.book.claim("a", "b")
        self.book.claim("a", "d")
        before = all_of(self.book)
        self.book.keep("a", tuple(self.deeds["a"]))
        self.book.claim("b", "a")
        self.book.claim("a", "d")
        self.assertEqual(all_of(self.book), before)

    def test_shown(self):
        self.kept("abcde")
        self.book.claim("c", "b")
        self.assertEqual(self.book.shown(), [("b", "c")])
        self.book.claim("c", "a")
        self.assertEqual(self.book.shown(), [("a", "b"), ("a", "c"), ("b", "c")])
        self.book.claim("e", "d")
        self.assertEqual(self.book.shown(), [("a", "b"), ("a", "c"), ("b", "c"), ("d", "e")])
        # What is claimed not to be alike joins nothing, though more might be known by it.
        self.book.claim("a", "e")
        self.assertEqual(self.book.shown(), [("a", "b"), ("a", "c"), ("b", "c"), ("d", "e")])
        self.assertEqual(self.book.against(), [("a", "e")])
        self.book.drop("c")
        self.assertEqual(self.book.shown(), [("d", "e")])

    def test_shown_by_a_long_row_of_claims(self):
        for name in "hgfedcba":
            self.book.keep(name, self.deeds[name] if name in "abc" else [Pour(0, 1)] * (ord(name) - ord("a")))
        self.book.keep("d", [Pour(0, 1)] * 5)
        self.book.keep("e", [Pour(0, 1)] * 6)
        order = "ahbgcfde"
        for name, other in zip(order, order[1:]):
            self.assertIs(self.book.claim(name, other), True)
        self.assertEqual(self.book.shown(), [(one, two) for one in "abcdefgh" for two in "abcdefgh" if one < two])
        self.assertEqual(len(self.book.claims()), 7)
        self.book.drop("g")
        self.assertEqual(self.book.shown(), [("a", "b"), ("a", "h"), ("b", "h"), ("c", "d"), ("c", "e"), ("c", "f"),
                                             ("d", "e"), ("d", "f"), ("e", "f")])

    def test_against(self):
        self.kept("abde")
        for pair in ("ea", "ab", "db", "de", "dd", "ad"):
            self.book.claim(*pair)
        self.assertEqual(self.book.against(), [("a", "d"), ("a", "e"), ("b", "d")])

    def test_told_lists_are_the_askers_own(self):
        self.kept("abcde")
        for pair in ("ab", "bc", "ad"):
            self.book.claim(*pair)
        for ask in (self.book.names, self.book.claims, self.book.shown, self.book.against):
            told = ask()
            self.assertIs(told.__class__, list)
            again = ask()
            told.append("x")
            del told[0]
            self.assertEqual(ask(), again)
        for ask in (self.book.claims, self.book.shown, self.book.against):
            self.assertEqual({one.__class__ for one in ask()}, {tuple})


class BackTest(Books):
    def test_each_change_is_taken_back(self):
        told = []
        def done(call, *given):
            told.append(all_of(self.book))
            call(*given)
        for name in "abcde":
            done(self.book.keep, name, self.deeds[name])
        done(self.book.claim, "a", "b")
        done(self.book.claim, "d", "a")
        done(self.book.claim, "c", "c")
        done(self.book.keep, "a", [Put(0, 1)])
        done(self.book.claim, "a", "b")
        done(self.book.drop, "b")
        done(self.book.drop, "d")
        done(self.book.keep, "d", [])
        self.assertEqual(self.book.many(), 13)
        while told:
            self.book.back()
            self.assertEqual(all_of(self.book), told.pop())
        self.unchanged(NoBack, {}, self.book.back)

    def test_behind_changes_that_were_none(self):
        self.kept("ab")
        self.book.claim("a", "b")
        self.book.keep("a", self.deeds["a"])
        self.book.claim("b", "a")
        for call, given in ((self.book.keep, ("1", [])), (self.book.drop, ("x",)), (self.book.claim, ("a", "x"))):
            self.assertRaises(DropsError, call, *given)
        self.assertEqual(self.book.many(), 3)
        self.book.back()
        self.assertEqual(self.book.claims(), [])
        self.assertEqual(self.book.names(), ["a", "b"])
        self.book.back()
        self.assertEqual(self.book.names(), ["a"])

    def test_what_is_taken_back_is_not_brought_back(self):
        self.kept("ab")
        self.book.back()
        self.book.keep("b", [Put(0, 1)])
        self.assertEqual(self.book.many(), 2)
        self.book.back()
        self.book.back()
        self.assertEqual(all_of(self.book), ([], [], [], [], 0))
        self.unchanged(NoBack, {}, self.book.back)

    def test_a_row_in_the_place_of_an_elder_one(self):
        self.kept("ab")
        self.book.claim("a", "b")
        self.book.keep("a", [])
        self.book.back()
        self.assertEqual(self.book.row("a"), Row(self.jars, self.deeds["a"]))
        self.assertEqual(self.book.claims(), [("a", "b", True)])
        self.assertEqual(self.book.shown(), [("a", "b")])

    def test_claims_behind_back_are_claimed_anew(self):
        self.kept("ab")
        self.book.claim("a", "b")
        self.book.back()
        self.assertIs(self.book.claim("a", "b"), True)
        self.assertEqual((self.book.claims(), self.book.many()), ([("a", "b", True)], 3))

    def test_many_changes(self):
        for number in range(1000):
            self.book.keep("a", [Put(0, number + 1)])
        self.assertEqual(self.book.many(), 1000)
        for number in range(999, 0, -1):
            self.book.back()
            self.assertEqual(self.book.row("a"), Row(self.jars, [Put(0, number)]))


class Plain:
    """A book by the document's words: a list of all that was, and starts gone through."""

    def __init__(self, jars):
        self.jars = jars
        self.was = [({}, {})]

    def change(self, rows, claims):
        if (rows, claims) != self.was[-1]:
            self.was.append((rows, claims))

    def keep(self, name, deeds):
        rows, claims = self.was[-1]
        row = Row(self.jars, deeds)
        if rows.get(name) != row:
            self.change({**rows, name: row}, {pair: told for pair, told in claims.items() if name not in pair})

    def drop(self, name):
        rows, claims = self.was[-1]
        rows = {other: row for other, row in rows.items() if other != name}
        self.change(rows, {pair: told for pair, told in claims.items() if name not in pair})

    def claim(self, name, other):
        rows, claims = self.was[-1]
        told = all(behind(rows[name], start) == behind(rows[other], start) for start in all_starts(self.jars.sizes, 1))
        self.change(rows, {**claims, tuple(sorted((name, other))): told})
        return told

    def back(self):
        self.was.pop()

    def told(self):
        rows, claims = self.was[-1]
        shown = {(name, name) for name in rows} | {pair for pair, told in claims.items() if told}
        shown |= {(other, name) for name, other in shown}
        for middle in rows:
            shown |= {(one, two) for one in rows for two in rows if {(one, middle), (middle, two)} <= shown}
        return (sorted(rows.items(), key=lambda one: one[0]), sorted((*pair, told) for pair, told in claims.items()),
                sorted((one, two) for one, two in shown if one < two),
                sorted(pair for pair, told in claims.items() if not told), len(self.was) - 1)


class DrawnTest(unittest.TestCase):
    def test_against_a_plain_book(self):
        drawn = random.Random(91)
        jars = Jars([2, 1])
        deeds = all_deeds(jars.sizes, 2)
        for _ in range(20):
            book, plain = Book(jars), Plain(jars)
            for _ in range(120):
                names = book.names()
                kind = drawn.choice(("keep", "keep", "claim", "claim", "claim", "drop", "back"))
                if kind == "keep":
                    name = drawn.choice("abcdefgh")
                    given = (name, [drawn.choice(deeds) for _ in range(drawn.randint(0, 2))])
                elif kind == "claim" and names:
                    given = (drawn.choice(names), drawn.choice(names))
                elif kind == "drop" and names and drawn.random() < 0.4:
                    given = (drawn.choice(names),)
                elif kind == "back" and book.many():
                    given = ()
                else:
                    continue
                self.assertEqual(getattr(book, kind)(*given), getattr(plain, kind)(*given))
                self.assertEqual(all_of(book), plain.told())

    def test_large_jars(self):
        book = Book(Jars([MOST] * 6))
        book.keep("ones", [Draw(0, 1)] * 20)
        book.keep("once", [Draw(0, 20)])
        book.keep("less", [Draw(0, 19)])
        self.assertIs(book.claim("ones", "once"), True)
        self.assertIs(book.claim("once", "less"), False)


if __name__ == "__main__":
    unittest.main()
