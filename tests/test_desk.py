"""Points 2 and 20, and the interface of wholedrops/desk.py."""

import random
import unittest
from itertools import product

from houses import MOST, Refusing, all_starts, by_ones, small_rows

from wholedrops import desk as module
from wholedrops.alike import Alike, held, more
from wholedrops.book import Book
from wholedrops.desk import Desk
from wholedrops.errors import DropsError
from wholedrops.jars import Change, Draw, Jars, Pour, Put, Row
from wholedrops.lean import lean
from wholedrops.led import Led, led
from wholedrops.rounds import fate, turning
from wholedrops.rowtexts import row_text
from wholedrops.stands import behind

BADTEXT = ["refused badtext"]


class Desks(unittest.TestCase):
    def setUp(self):
        self.jars = Jars([3, 2, 3])
        self.desk = Desk(self.jars)

    def told(self, row, *answer):
        answered = self.desk.tell(row)
        self.assertIs(answered.__class__, list)
        self.assertEqual(answered, list(answer), row)

    def state(self):
        book = self.desk.book
        return [(name, book.row(name)) for name in book.names()], book.claims(), book.many()

    def refused(self, name, *rows):
        for row in rows:
            with self.subTest(row):
                before = self.state()
                self.told(row, "refused " + name)
                self.assertEqual(self.state(), before)

    def bad(self, *rows):
        self.refused("badtext", *rows)

    def three(self):
        self.told("keep a pour 0 1", "done")
        self.told("keep b pour 0 1, pour 0 1", "done")
        self.told("keep c none", "done")


class InterfaceTest(Desks):
    def test_the_class_and_its_own_methods(self):
        Refusing().defined(module, ("Desk",), ())
        self.assertIn("tell", vars(Desk))
        self.assertEqual(Desk(jars=self.jars).tell(row="names"), [])

    def test_a_desk_has_a_book(self):
        self.assertIs(self.desk.book.__class__, Book)
        self.desk.book.keep("a", [Pour(0, 1)])
        self.told("names", "a")

    def test_two_desks(self):
        self.three()
        self.assertEqual(Desk(self.jars).tell("names"), [])


class RowsTest(Desks):
    def test_keep_row_and_names(self):
        self.told("names")
        self.told("keep b2 pour 0 1, put 2 7, draw 1 9, change 2 0", "done")
        self.told("keep a none", "done")
        self.told("names", "a", "b2")
        self.told("row b2", "pour 0 1, put 2 7, draw 1 9, change 2 0")
        self.told("row a", "none")
        self.told("keep a put 0 1", "done")
        self.told("row a", "put 0 1")
        self.told("keep keep pour 0 1", "done")
        self.told("row keep", "pour 0 1")

    def test_drop_and_back(self):
        self.three()
        self.told("drop b", "done")
        self.told("names", "a", "c")
        self.told("back", "done")
        self.told("names", "a", "b", "c")
        for _ in range(3):
            self.told("back", "done")
        self.refused("noback", "back")

    def test_back_behind_a_change_that_was_none(self):
        self.three()
        self.told("claim a b", "true")
        self.told("claim b a", "true")
        self.told("keep a pour 0 1", "done")
        self.told("back", "done")
        self.told("claims")
        self.told("names", "a", "b", "c")

    def test_behind(self):
        self.three()
        self.told("behind a 1 3 1 3", "2 2 3")
        self.told("behind a 0 3 1 3", "3 1 3")
        self.told("behind c 1000 3 1 3", "3 1 3")
        self.refused("badcount", "behind a 1001 3 1 3", "behind a 1 3", "behind a 1 3 1 3 0",
                     "behind a 9999999999999 0 0 0")
        self.refused("badstart", "behind a 1 4 1 3", "behind a 1001 4 1 3", "behind a 1 0 0 9999999999999")

    def test_held(self):
        self.three()
        self.told("held a b", "alike")
        self.told("held a a", "alike")
        self.told("held c b", "parted 1")
        self.told("keep d pour 0 1, put 0 1, draw 0 1", "done")
        self.told("held a d", "parted 5")

    def test_more(self):
        self.three()
        self.told("more a c 1", "more")
        self.told("more a c 0", "never")
        self.told("more c a 0", "more")
        self.told("more a b 1", "never")
        self.refused("nojar", "more a b 3", "more a b 9999999999999")

    def test_fate_and_turning(self):
        self.three()
        self.told("keep d change 0 2, put 1 1", "done")
        self.told("fate d 0 0 3", "2 2")
        self.told("fate d 1 2 1", "0 1")
        self.told("turning d", "2 2")
        self.told("turning c", "0 1")
        self.refused("badcount", "fate d 0", "fate d 0 0 0 0")
        self.refused("badstart", "fate d 4 0 0")

    def test_led(self):
        self.three()
        self.told("led a 0=1", "led 3")
        self.told("led a 0=1 1=2 2=3", "led 6")
        self.told("led a 1=0 0=0", "led 0")
        self.told("led a 0=1 1=1", "none")
        self.told("led a 2=4", "none")
        self.refused("nojar", "led a 3=0", "led a 0=1 9=9999999999999")

    def test_lean(self):
        self.three()
        self.told("lean b", "pour 0 1")
        self.told("lean c", "none")
        self.told("keep d change 0 2, change 0 2", "done")
        self.told("lean d", "change 0 2, change 0 2")
        self.told("row b", "pour 0 1, pour 0 1")

    def test_claim_and_claims(self):
        self.three()
        self.told("claims")
        self.told("claim c b", "false")
        self.told("claim b a", "true")
        self.told("claim c c", "true")
        self.told("claims", "a b true", "b c false", "c c true")
        self.told("drop b", "done")
        self.told("claims", "c c true")
        self.told("back", "done")
        self.told("claims", "a b true", "b c false", "c c true")

    def test_wide(self):
        self.desk = Desk(Jars([9, 9]))
        self.told("keep w " + row_text(by_ones(9, 4, 4)), "done")
        self.told("keep f " + row_text(by_ones(9, 3, 5)), "done")
        self.told("row w", row_text(by_ones(9, 4, 4)))
        self.refused("wide", "held w f", "held f w", "claim w w", "claim f w", "more f w 1", "led w 0=1", "lean w")
        self.refused("nojar", "more f w 2", "led w 2=1")
        self.told("held f f", "alike")
        self.told("turning w", "3 1")
        self.desk = Desk(Jars([2000]))
        self.told("keep a put 0 1", "done")
        self.refused("wide", "turning a")
        self.desk = Desk(Jars([MOST]))
        self.told("keep a put 0 1", "done")
        self.refused("wide", "fate a 0", "fate a 999999980000")
        self.told("fate a 999999980001", "19999 1")

    def test_told_lists_are_the_askers_own(self):
        self.three()
        self.told("claim a b", "true")
        for row in ("names", "claims", "row a", "held a c"):
            answered = self.desk.tell(row)
            again = list(answered)
            answered.append("x")
            self.assertEqual(self.desk.tell(row), again)


class BadTextTest(Desks):
    def setUp(self):
        super().setUp()
        self.three()

    def test_any_other_row(self):
        self.bad("", " ", "  ", "x", "Names", "name", "shown", "against", "many", "help", "keep", "none", "refused",
                 "a")
        self.bad("pour 0 1", "is_alike a b", "has a", "row_text a", "= a", "KEEP a none", "names,", "shown a", "claim,")

    def test_too_few_and_too_many_parts(self):
        self.bad("keep a", "drop", "drop a b", "back 1", "back back", "row", "row a b", "names a", "behind", "behind a")
        self.bad("held", "held a", "held a b c", "more a b", "more a b 0 1", "more a", "turning", "turning a 0")
        self.bad("lean", "lean a b", "claim", "claim a", "claim a b c", "claims a", "claims a b")

    def test_lists_of_none(self):
        self.bad("behind a 1", "fate a", "fate", "led a", "led", "behind a", "behind x 1", "fate x", "led x")

    def test_a_blank_more(self):
        rows = ("keep a none", "keep a pour 0 1, pour 0 1", "drop a", "back", "row a", "names", "behind a 1 0 0 0",
                "claims",
                "held a b", "more a b 0", "fate a 0 0 0", "turning a", "led a 0=1 1=1", "lean a", "claim a b")
        for row in rows:
            self.bad(" " + row, row + " ", " " + row + " ", row + "  ")
            for at, sign in enumerate(row):
                if sign == " ":
                    self.bad(row[:at] + " " + row[at:])
        # As many parts as there should be, but one of them empty.
        self.bad("drop ", "row ", "turning ", "lean ", "held a ", "held  a", "claim  a", "claim a ", "more  a 0",
                 "more a  0")
        self.bad("keep  none", "keep a ", "behind  1 0 0 0", "fate  0 0 0", "led  0=1", "fate a ", "led a ",
                 "behind a 1 ")

    def test_deeds(self):
        self.bad("keep d x", "keep d pour", "keep d pour 0", "keep d pour 0 1,", "keep d pour 0 1,pour 0 1",
                 "keep d None")
        self.bad("keep d none none", "keep d none, none", "keep d put 0 01", "keep d put 0 10000000000000", "keep d ,")
        self.bad("keep d pour 0 1, ", "keep d , pour 0 1", "keep d pour 0 1, , pour 0 1", "keep d put 0 -1")

    def test_numbers(self):
        for number in ("x", "-1", "+1", "01", "00", "1.0", "10000000000000", "0000000000000", "1a", "1,", "=", "1=1"):
            self.bad(f"behind a {number} 0 0 0", f"behind a 1 0 0 {number}", f"behind a 1 {number} 0 0")
            self.bad(f"more a b {number}", f"fate a 0 0 {number}", f"fate a {number}")
            self.bad(f"led a {number}=1", f"led a 0={number}", f"led a 0=1 1={number}")

    def test_wishes(self):
        self.bad("led a 0", "led a =", "led a 0=", "led a =1", "led a 0==1", "led a 0=1=2", "led a 0 = 1", "led a 0:1")
        self.bad("led a 0=1 0=1", "led a 0=1 0=2", "led a 1=0 0=1 1=0", "led a 9=1 9=1", "led a 0=1 1", "led a 0=1,1=1")

    def test_a_row_is_read_whole_ahead_of_its_question(self):
        self.bad("behind x 1 0 0 a", "behind x a 0 0 0", "behind a 1001 9 9 a", "more x y z", "more x a 01",
                 "fate x 0 a")
        self.bad("led x 9=1 9=1", "led x 9=1 a", "led a 9=1 0=01", "held x", "claim x y z", "drop x y", "row x ")
        self.bad("keep 1 x", "keep A pour 0", "keep toolongname pour 0 1,", "keep 1 pour 9 9, x",
                 "keep d pour 0 0, pour")

    def test_names_are_any_part_without_a_blank(self):
        for name in ("x", "A", "1", "toolongname", "a,b", "!", "none", "a=b", "~", "-"):
            self.refused("norow", f"drop {name}", f"row {name}", f"behind {name} 1 0 0 0", f"behind {name} 1001 9")
            self.refused("norow", f"held {name} a", f"held a {name}", f"more {name} a 9", f"more a {name} 9",
                         f"lean {name}")
            self.refused("norow", f"fate {name} 9", f"turning {name}", f"led {name} 9=1", f"claim {name} a")
            self.refused("norow", f"claim a {name}", f"claim {name} {name}")


class RefusedTest(Desks):
    def setUp(self):
        super().setUp()
        self.three()

    def test_keep(self):
        self.refused("noname", "keep 1 none", "keep A pour 0 1", "keep toolongname none", "keep a_ none",
                     "keep 1 pour 9 9")
        self.refused("nojar", "keep d pour 0 3", "keep d put 9 0", "keep a pour 3 3")
        self.refused("samejar", "keep d pour 1 1", "keep d change 0 0")
        self.refused("sizes", "keep d change 0 1")
        self.refused("badcount", "keep d put 0 0", "keep d put 0 9999999999999")
        self.refused("badcount", "keep d " + ", ".join(["pour 0 1"] * 21), "keep a " + ", ".join(["pour 9 9"] * 21))

    def test_the_order_of_the_refusals_of_keep(self):
        for name in "defgh":
            self.told(f"keep {name} none", "done")
        self.bad("keep i x", "keep 1 x")
        self.refused("noname", "keep 1 pour 9 9")
        self.refused("badcount", "keep i none", "keep i pour 9 9")
        self.refused("nojar", "keep h pour 9 9")
        self.told("keep h pour 0 1", "done")

    def test_tell_never_refuses(self):
        drawn = random.Random(95)
        words = ["keep", "drop", "back", "row", "names", "behind", "held", "more", "fate", "turning", "led", "lean",
                 "claim"]
        words += ["claims", "a", "b", "c", "x", "1", "0", "2", "pour", "put", "0,", "1,", "none", "0=1", "1=0", "", "9"]
        answers = {}
        for _ in range(20000):
            row = " ".join([drawn.choice(words[:14])] + [drawn.choice(words[14:]) for _ in range(drawn.randint(0, 5))])
            before = self.state()
            answered = self.desk.tell(row)
            self.assertTrue(all(one.__class__ is str for one in answered))
            if answered[:1] and answered[0].startswith("refused"):
                self.assertEqual(len(answered), 1)
                self.assertEqual(self.state(), before)
                answers[answered[0]] = answers.get(answered[0], 0) + 1
        self.assertGreater(len(answers), 4, answers)


class SameAsTheFunctionsTest(unittest.TestCase):
    """A desk tells the same as a book and as the functions."""

    def asked(self, call):
        try:
            return call()
        except DropsError as refusal:
            return refusal.told()

    def test_small_houses(self):
        drawn = random.Random(96)
        for row, other in small_rows(drawn, 60):
            jars = row.jars
            desk, book = Desk(jars), Book(jars)
            for name, one in (("a", row), ("b", other)):
                self.assertEqual(desk.tell(f"keep {name} {row_text(one)}"), ["done"])
                book.keep(name, one.deeds)
                self.assertEqual(desk.tell(f"row {name}"), [row_text(book.row(name))])
                self.assertEqual(desk.tell(f"lean {name}"), [row_text(lean(one))])
                told = turning(one)
                self.assertEqual(desk.tell(f"turning {name}"), [f"{told.tail} {told.ring}"])
            for name, against in product("ab", "ab"):
                paper = held(book.row(name), book.row(against))
                answer = "alike" if paper.__class__ is Alike else f"parted {paper.total}"
                self.assertEqual(desk.tell(f"held {name} {against}"), [answer])
                for jar in range(len(jars.sizes)):
                    told = more(book.row(name), book.row(against), jar=jar)
                    self.assertEqual(desk.tell(f"more {name} {against} {jar}"), ["never" if told is None else "more"])
                self.assertEqual(desk.tell(f"claim {name} {against}"), [str(book.claim(name, against)).lower()])
            claims = [f"{name} {against} {str(told).lower()}" for name, against, told in book.claims()]
            self.assertEqual(desk.tell("claims"), claims)
            self.starts(drawn, desk, row)

    def starts(self, drawn, desk, row):
        starts = all_starts(row.jars.sizes, 1)
        for start in drawn.sample(starts, min(20, len(starts))):
            numbers = " ".join([str(number) for number in start])
            times = drawn.choice((0, 1, 2, 1000))
            after = behind(row, start, times=times)
            self.assertEqual(desk.tell(f"behind a {times} {numbers}"), [" ".join([str(number) for number in after])])
            self.assertEqual(desk.tell(f"fate a {numbers}"), ["{} {}".format(*fate(row, start))])
            wish = {jar: number for jar, number in enumerate(start) if drawn.random() < 0.6} or {0: start[0]}
            asked = " ".join([f"{jar}={number}" for jar, number in wish.items()])
            paper = led(row, wish)
            self.assertEqual(desk.tell(f"led a {asked}"), [f"led {paper.total}" if paper.__class__ is Led else "none"])

    def test_refusals_are_those_of_a_book(self):
        desk, book = Desk(Jars([3, 2, 3])), Book(Jars([3, 2, 3]))
        texts = {
            "pour 0 1": [Pour(0, 1)], "pour 0 9": [Pour(0, 9)], "pour 0 0": [Pour(0, 0)], "put 0 0": [Put(0, 0)],
            "change 0 1": [Change(0, 1)], "none": [], ", ".join(["draw 0 1"] * 21): [Draw(0, 1)] * 21,
        }
        for name in ("1", "a", "b", "toolongname", *"cdefghi"):
            for text, deeds in texts.items():
                told = self.asked(lambda: book.keep(name, deeds))
                self.assertEqual(desk.tell(f"keep {name} {text}"), ["done" if told is None else told])
            self.assertEqual(desk.tell("names"), book.names())


if __name__ == "__main__":
    unittest.main()
