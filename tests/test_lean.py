"""Points 2 and 17, and the interface of wholedrops/lean.py."""

import random
import unittest
from itertools import product

from houses import MOST, Refusing, all_deeds, all_starts, by_ones, drawn_row, is_wide, small_rows

from wholedrops import lean as module
from wholedrops.alike import are_alike
from wholedrops.errors import Wide
from wholedrops.jars import Change, Draw, Jars, Pour, Put, Row
from wholedrops.lean import lean
from wholedrops.rowtexts import read_row, row_text
from wholedrops.stands import behind


def plain_lean(row):
    """By the document's words, with all whole starts gone through."""
    starts = all_starts(row.jars.sizes, 1)
    right = [behind(row, start) for start in starts]
    told, left = row, None
    while left != 0:
        at = left = 0
        while at < len(told.deeds):
            shorter = Row(row.jars, told.deeds[:at] + told.deeds[at + 1:])
            if not is_wide(shorter) and [behind(shorter, start) for start in starts] == right:
                told = shorter
                left += 1
            else:
                at += 1
    return told


class LeanTest(Refusing):
    def told(self, sizes, text, lean_text):
        jars = Jars(sizes)
        row = read_row(jars, text)
        self.assertEqual(row_text(lean(row)), lean_text)
        self.assertEqual(lean(row), read_row(jars, lean_text))
        self.assertEqual(row, read_row(jars, text))

    def test_interface(self):
        self.defined(module, (), ("lean",))
        row = Row(Jars([3]), [Put(0, 3), Put(0, 1)])
        self.assertEqual(lean(row=row), Row(Jars([3]), [Put(0, 3)]))
        self.assertIs(lean(row).__class__, Row)
        self.assertIs(lean(row).deeds.__class__, tuple)

    def test_no_deeds_and_nothing_to_leave_out(self):
        for text in ("none", "pour 0 1", "put 0 1", "draw 1 1", "put 0 1, draw 0 1", "pour 0 1, put 0 1"):
            self.told([3, 2], text, text)

    def test_deeds_that_change_nothing(self):
        self.told([3, 2], "pour 0 1, pour 0 1", "pour 0 1")
        self.told([3, 2], "pour 0 1, pour 1 0, pour 0 1", "pour 0 1")
        self.told([3, 2], "pour 0 1, pour 1 0", "pour 1 0")
        self.told([3], "draw 0 3, draw 0 1", "draw 0 3")
        self.told([MOST, 2], "put 0 1000000000000, put 0 1, pour 1 0", "put 0 1000000000000")

    def test_the_first_that_can_be_left_out_is(self):
        self.told([2], "put 0 1, put 0 1, put 0 2", "put 0 2")
        self.told([2], "put 0 2, put 0 1, put 0 1", "put 0 1, put 0 1")
        self.told([3], "draw 0 1, draw 0 2, draw 0 1", "draw 0 2, draw 0 1")
        self.told([2], "draw 0 2, draw 0 1, draw 0 1", "draw 0 1, draw 0 1")

    def test_from_the_first_on_again(self):
        self.told([3], "put 0 1, put 0 1, draw 0 1, put 0 2", "put 0 1, put 0 2")
        self.told([2, 1], "put 0 2, pour 1 0, draw 0 2", "draw 0 2")

    def test_not_from_the_first_on_behind_each_one_left_out(self):
        self.told([3], "put 0 1, put 0 2, draw 0 1, put 0 1", "put 0 1, put 0 2")
        self.told([3], "put 0 2, put 0 2, draw 0 1, put 0 1", "put 0 2, put 0 2")

    def test_two_that_can_only_be_left_out_together_stay(self):
        self.told([2, 2], "change 0 1, change 0 1", "change 0 1, change 0 1")
        self.told([2, 2], "change 0 1, change 0 1, change 0 1", "change 0 1, change 0 1, change 0 1")

    def test_twenty_deeds(self):
        self.told([3, 2], ", ".join(["pour 0 1"] * 20), "pour 0 1")
        self.told([3], ", ".join(["put 0 1"] * 20), "put 0 1, put 0 1, put 0 1")
        row = Row(Jars([MOST]), [Draw(0, 1)] * 20)
        self.assertEqual(lean(row), row)

    def test_wide(self):
        row = by_ones(9, 4, 4)
        self.refused(Wide, {"count": 25}, lean, row)
        self.assertEqual(row, by_ones(9, 4, 4))

    def test_a_deed_without_which_the_row_would_be_wide_stays(self):
        jars = Jars([4, 4, 4])
        ones = [[Draw(jar, 1)] * 4 for jar in range(3)]
        row = Row(jars, [Draw(0, 4), Draw(1, 4), Draw(2, 4)] + ones[0] + ones[1] + ones[2])
        # By ones each jar has four leaves: two of them sixteen, and all three were Wide.
        self.assertTrue(is_wide(Row(jars, ones[0] + ones[1] + ones[2])))
        self.assertEqual(lean(row), Row(jars, [Draw(2, 4)] + ones[0] + ones[1]))

    def test_large(self):
        jars = Jars([MOST] * 6)
        fill = [Put(jar, MOST) for jar in range(6)]
        row = Row(jars, fill + [Change(0, 1), Pour(2, 3), Put(4, 1)] + [Draw(5, 1)] * 9)
        self.assertEqual(lean(row), Row(jars, fill + [Draw(5, 1)] * 9))
        row = Row(jars, [Pour(0, 1), Draw(0, MOST), Put(0, MOST), Change(0, 5), Put(5, 1)])
        self.assertEqual(lean(row), Row(jars, [Pour(0, 1), Put(0, MOST), Change(0, 5)]))


class AllStartsTest(unittest.TestCase):
    def looked_at(self, row):
        told = lean(row)
        self.assertEqual(told, plain_lean(row))
        self.assertEqual(told, lean(told))
        return len(row.deeds) - len(told.deeds)

    def test_all_rows_of_two_deeds(self):
        for sizes in ((2,), (1, 1), (2, 1)):
            deeds = all_deeds(sizes, max(sizes))
            for pair in product(deeds, deeds):
                self.looked_at(Row(Jars(sizes), pair))

    def test_all_rows_of_three_deeds_of_one_jar(self):
        deeds = all_deeds((3,), 3)
        for three in product(deeds, deeds, deeds):
            self.looked_at(Row(Jars([3]), three))

    def test_drawn_rows(self):
        drawn = random.Random(71)
        left = [self.looked_at(row) for row, _ in small_rows(drawn, 150)]
        self.assertGreater(len([many for many in left if many > 1]), 30)

    def test_drawn_large_rows(self):
        drawn = random.Random(72)
        left = 0
        for _ in range(60):
            sizes = [drawn.choice((1, MOST, drawn.randint(1, MOST))) for _ in range(drawn.randint(1, 6))]
            row = drawn_row(drawn, sizes, drawn.randint(1, 20))
            if is_wide(row):
                continue
            told = lean(row)
            left += len(row.deeds) - len(told.deeds)
            self.assertTrue(are_alike(row, told))
            for at in range(len(told.deeds)):
                shorter = Row(row.jars, told.deeds[:at] + told.deeds[at + 1:])
                self.assertTrue(is_wide(shorter) or not are_alike(row, shorter))
        self.assertGreater(left, 60)


if __name__ == "__main__":
    unittest.main()
