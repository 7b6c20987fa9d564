"""Points 2 and 19, and the interface of wholedrops/rowtexts.py."""

import random
import unittest

from houses import MOST, Refusing, all_deeds, drawn_row

from wholedrops import rowtexts as module
from wholedrops.errors import BadCount, BadText, NoJar, SameJar, Sizes
from wholedrops.jars import Change, Draw, Jars, Pour, Put, Row
from wholedrops.rowtexts import read_row, row_text


class TextsTest(unittest.TestCase):
    def setUp(self):
        self.jars = Jars([8, 5, 8])

    def both(self, text, *deeds):
        row = Row(self.jars, deeds)
        self.assertEqual(row_text(row), text)
        self.assertEqual(read_row(self.jars, text), row)
        self.assertEqual(row, Row(self.jars, deeds))

    def test_interface(self):
        Refusing().defined(module, (), ("row_text", "read_row"))
        row = read_row(text="pour 0 1", jars=self.jars)
        self.assertIs(row.__class__, Row)
        self.assertEqual(row.jars, self.jars)
        self.assertEqual(row_text(row=row), "pour 0 1")

    def test_each_deed(self):
        self.both("pour 0 1", Pour(0, 1))
        self.both("put 2 7", Put(2, 7))
        self.both("draw 1 9", Draw(1, 9))
        self.both("change 2 0", Change(2, 0))

    def test_no_deeds_and_more_than_one(self):
        self.both("none")
        self.both("pour 0 1, put 2 7, draw 1 9, change 2 0", Pour(0, 1), Put(2, 7), Draw(1, 9), Change(2, 0))
        self.both(", ".join(["pour 2 1"] * 20), *[Pour(2, 1)] * 20)

    def test_the_most(self):
        self.both("put 0 1000000000000", Put(0, MOST))
        self.both("draw 0 999999999999", Draw(0, MOST - 1))

    def test_all_deeds_and_drawn_rows(self):
        for deed in all_deeds((8, 5, 8), 12):
            self.assertEqual(read_row(self.jars, row_text(Row(self.jars, [deed]))), Row(self.jars, [deed]))
        drawn = random.Random(81)
        for _ in range(200):
            sizes = [drawn.choice((1, MOST, drawn.randint(1, MOST))) for _ in range(drawn.randint(1, 6))]
            row = drawn_row(drawn, sizes, drawn.randint(0, 20))
            self.assertEqual(read_row(row.jars, row_text(row)), row)


class RefusalsTest(Refusing):
    def setUp(self):
        self.jars = Jars([8, 5, 8])

    def bad(self, place, *texts):
        for text in texts:
            with self.subTest(text):
                self.refused(BadText, {"place": place}, read_row, self.jars, text)

    def test_no_text_at_all(self):
        self.bad(0, "")

    def test_words(self):
        self.bad(0, "pore 0 1", "Pour 0 1", "POUR 0 1", "pours 0 1", "0 1", "none 0 1", "fill 0 1", "p 0 1", "pour0 1")
        self.bad(0, "None", "none ", " none", "none, none", "none, pour 0 1", "nonenone", "no ne", "none,")
        self.bad(1, "pour 0 1, none", "pour 0 1, nothing")

    def test_how_many_parts(self):
        self.bad(0, "pour", "pour 0", "pour 0 1 2", "change 0 2 ,", "put 0 1 x", "draw 0", "pour 0 1 pour 0 1")

    def test_a_blank_more(self):
        self.bad(0, " pour 0 1", "pour 0 1 ", "pour  0 1", "pour 0  1", " ", "  ", "   ", "pour 0 ", "pour  0")
        self.bad(1, "pour 0 1,  pour 0 1", "pour 0 1, pour 0 1 ", "pour 0 1, ")
        self.bad(0, "pour 0 1 , pour 0 1", " , pour 0 1")

    def test_a_comma_more_or_a_blank_less(self):
        self.bad(0, "pour 0 1,", "pour 0 1,pour 0 1", ",", ", ", ",, ", "pour 0 1,, pour 0 1", ", pour 0 1",
                 "pour, 0 1")
        self.bad(1, "pour 0 1, , pour 0 1", "pour 0 1, pour 0 1,", "pour 0 1, ,", "pour 0 1, pour,0,1")

    def test_numbers(self):
        self.bad(0, "pour 00 1", "pour 0 01", "put 0 007", "put 0 00", "put 0 -1", "put 0 +1", "put -0 1", "put 0 1.0")
        self.bad(0, "put a 1", "put 0 b", "put 0 1a", "put 0 0x1", "put 0 1_0", "put 0 1e3", "put 0 ''", "put 0 /",
                 "put 0 :")

    def test_thirteen_figures(self):
        self.refused(BadCount, {"what": "much", "count": 9999999999999}, read_row, self.jars, "put 0 9999999999999")
        self.refused(NoJar, {"jar": 1000000000000}, read_row, self.jars, "pour 1000000000000 0")
        self.bad(0, "put 0 10000000000000", "put 0 99999999999999", "pour 10000000000000 0", "put 0 0000000000001")

    def test_the_first_deed_that_is_not_of_its_form(self):
        fine = "pour 0 1, put 2 7, draw 1 9"
        self.bad(3, fine + ", pour 0", fine + ", put 0 01, pour", fine + ", x, y")
        self.bad(0, "x, " + fine, "x, y")
        self.bad(19, ", ".join(["pour 0 1"] * 19 + ["pour 0"]))
        self.bad(30, ", ".join(["pour 0 1"] * 30 + ["pour 0"] * 5))

    def test_then_as_row_refuses(self):
        self.refused(BadCount, {"what": "deeds", "count": 21}, read_row, self.jars, ", ".join(["pour 0 1"] * 21))
        self.refused(BadCount, {"what": "deeds", "count": 21}, read_row, self.jars, ", ".join(["pour 9 9"] * 21))
        self.refused(NoJar, {"jar": 3}, read_row, self.jars, "pour 0 1, pour 3 3, put 0 0")
        self.refused(NoJar, {"jar": 7}, read_row, self.jars, "change 1 7")
        self.refused(SameJar, {"jar": 1}, read_row, self.jars, "pour 1 1, pour 9 0")
        self.refused(BadCount, {"what": "much", "count": 0}, read_row, self.jars, "put 0 0")
        self.refused(BadCount, {"what": "much", "count": MOST + 1}, read_row, self.jars, "draw 0 1000000000001")
        self.refused(Sizes, {"a": 0, "b": 1}, read_row, self.jars, "change 0 1")

    def test_the_form_comes_ahead_of_what_row_refuses(self):
        self.bad(1, "pour 0 0, pour 0", "put 0 0, x", "change 0 1, put 1 01")
        self.bad(24, ", ".join(["pour 0 1"] * 24 + ["pour 0 1 "]))


if __name__ == "__main__":
    unittest.main()
