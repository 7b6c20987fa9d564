"""Points 2 and 16, and the interface of wholedrops/led.py."""

import random
import unittest
from itertools import product

from houses import MOST, Refusing, all_deeds, all_starts, box_of, by_ones, drawn_row, is_wide, shows, small_rows

from wholedrops import led as module
from wholedrops.alike import Alike, Parted
from wholedrops.bounds import Least, Most, load, worth
from wholedrops.errors import NoJar, Wide
from wholedrops.jars import Change, Draw, Jars, Pour, Put, Row
from wholedrops.led import Led, NoneLed, is_led, led
from wholedrops.stands import behind
from wholedrops.sums import Sum
from wholedrops.trees import Leaf, Test, tree_of, ways


def asked_bounds(row, wish):
    """For each way its bounds and those of the wish, by the document's words."""
    found = []
    for bounds, sums in ways(row.jars, tree_of(row)):
        asked = list(bounds)
        for jar, number in wish.items():
            asked += [kind(sums[jar].group, number - sums[jar].more) for kind in (Least, Most)]
        found.append(asked)
    return found


class InterfaceTest(unittest.TestCase):
    def test_all_is_defined_in_this_file(self):
        Refusing().defined(module, ("Led", "NoneLed"), ("led", "is_led"))
        for kind in (Led, NoneLed):
            self.assertIn("__init__", vars(kind))
            self.assertIn("__eq__", vars(kind))
        self.assertFalse(issubclass(Led, NoneLed) or issubclass(NoneLed, Led))

    def test_arguments(self):
        row = Row(Jars([3, 2]), [Pour(0, 1)])
        paper = led(wish={1: 2}, row=row)
        self.assertEqual(paper, led(row, {1: 2}))
        self.assertIs(is_led(paper=paper, wish={1: 2}, row=row), True)
        leaf = Leaf((Sum((0,), 0),))
        self.assertEqual(Led(lots=[], tree=leaf, total=3, start=(3,)), Led((3,), 3, leaf, []))
        self.assertEqual(NoneLed(lots=[], tree=leaf), NoneLed(leaf, []))


class PapersTest(unittest.TestCase):
    def setUp(self):
        self.leaf = Leaf((Sum((0,), 0),))
        self.other = Leaf((Sum((0,), 1),))
        self.lots = [[Least((0,), 1)], (Most((0,), 2),)]
        self.told = [[Least((0,), 1)], [Most((0,), 2)]]

    def made(self):
        """Papers no two of which are equal."""
        leaf, other, lots = self.leaf, self.other, self.lots
        found = [Led((1, 2), 3, leaf, lots), Led((2, 1), 3, leaf, lots), Led((1, 2), 2, leaf, lots)]
        found += [Led((1, 2), 3, other, lots), Led((1, 2), 3, leaf, lots[:1]), Led((1, 2), 3, leaf, lots[::-1])]
        found += [NoneLed(leaf, lots), NoneLed(other, lots), NoneLed(leaf, lots[:1]), NoneLed(leaf, [])]
        return found

    def test_fields(self):
        for start in ((1, 2), [1, 2]):
            paper = Led(start, 3, self.leaf, self.lots)
            self.assertEqual((paper.start, paper.total, paper.lots), ((1, 2), 3, self.told))
            self.assertIs(paper.start.__class__, tuple)
            self.assertIs(paper.tree, self.leaf)
        paper = NoneLed(self.leaf, tuple(self.lots))
        self.assertIs(paper.tree, self.leaf)
        self.assertEqual(paper.lots, self.told)
        self.assertIs(paper.lots.__class__, list)

    def test_equal_by_class_and_fields(self):
        for i, paper in enumerate(self.made()):
            for j, again in enumerate(self.made()):
                self.assertEqual(paper == again, i == j)
                self.assertEqual(paper != again, i != j)

    def test_equal_to_no_thing_of_another_kind(self):
        for paper in (Led((0,), 0, self.leaf, []), NoneLed(self.leaf, [])):
            others = (None, 0, [], (), (self.leaf, []), self.leaf, Alike(self.leaf, self.leaf, {}), Parted((0,), 0, 0,
                                                                                                           {}))
            for other in others:
                self.assertFalse(paper == other)
                self.assertFalse(other == paper)

    def test_what_is_handed_in_is_free_of_the_paper(self):
        start = [1, 2]
        papers = [Led(start, 3, self.leaf, self.lots), NoneLed(self.leaf, self.lots)]
        again = [Led((1, 2), 3, self.leaf, self.told), NoneLed(self.leaf, self.told)]
        start.append(3)
        self.lots[0].append(Least((), 0))
        self.lots.append([])
        self.assertEqual(papers, again)

    def test_the_fields_are_the_very_lists(self):
        row = Row(Jars([3, 2]), [Pour(0, 1)])
        made = [led(row, {1: 2}), led(row, {1: 9}), Led((1, 2), 3, self.leaf, self.lots), NoneLed(self.leaf, self.lots)]
        for paper in made:
            self.assertIs(paper.lots, paper.lots)
            self.assertIs(paper.lots[0], paper.lots[0])

    def test_what_is_changed_in_place_changes_the_object(self):
        row = Row(Jars([3, 2]), [Pour(0, 1)])
        for wish in ({1: 2}, {1: 9}):
            paper, again = led(row, wish), led(row, wish)
            paper.lots[0].append(Least((0,), 77))
            self.assertEqual(paper.lots[0][-1], Least((0,), 77))
            self.assertNotEqual(paper, again)
            self.assertFalse(is_led(row, wish, paper))
            again.lots[0].append(Least((0,), 77))
            self.assertEqual(paper, again)
            paper.lots.pop()
            self.assertEqual(len(paper.lots), 1)
            self.assertNotEqual(paper, again)
            # What another call told is its asker's own.
            self.assertEqual(led(row, wish), led(row, wish))
            self.assertNotEqual(again, led(row, wish))
            self.assertTrue(is_led(row, wish, led(row, wish)))

    def test_lots_that_are_set(self):
        for paper in (Led((1, 2), 3, self.leaf, []), NoneLed(self.leaf, [])):
            paper.lots = self.lots
            self.assertEqual(paper.lots, self.told)


class LedTest(unittest.TestCase):
    def test_a_pour(self):
        row = Row(Jars([3, 2]), [Pour(0, 1)])
        paper = led(row, {0: 1})
        self.assertIs(paper.__class__, Led)
        self.assertEqual((paper.total, sum(paper.start), behind(row, paper.start)), (3, 3, [1, 2]))
        self.assertEqual(paper.tree, Test(0, (0, 1), 2, Leaf((Sum((), 0), Sum((0, 1), 0))),
                                          Leaf((Sum((0, 1), -2), Sum((), 2)))))
        # No way but the second leaves one in the first jar.
        box = box_of(row.jars)
        self.assertEqual(len(paper.lots), 2)
        wished = [Least((), 1), Most((), 1)]
        self.assertTrue(shows(paper.lots[0], box + [Most((0, 1), 2)] + wished, 0, 1))
        wished = [Least((0, 1), 3), Most((0, 1), 3)]
        self.assertTrue(shows(paper.lots[1], box + [Least((0, 1), 2)] + wished, 1, 3))

    def test_none(self):
        row = Row(Jars([3, 2]), [Pour(0, 1)])
        for wish in ({0: 1, 1: 1}, {0: 4}, {1: 3}, {0: 3, 1: 0}, {0: MOST}):
            paper = led(row, wish)
            self.assertIs(paper.__class__, NoneLed)
            self.assertEqual(paper.tree, tree_of(row))
            self.assertTrue(is_led(row, wish, paper))

    def test_nothing_wished(self):
        for sizes in ([1], [8, 5, 3], [MOST] * 6):
            for deeds in ([], [Put(0, 1)], [Draw(0, 1)]):
                row = Row(Jars(sizes), deeds)
                paper = led(row, {})
                self.assertEqual((paper.start, paper.total), ((0,) * len(sizes), 0))
                self.assertTrue(is_led(row, {}, paper))

    def test_all_jars_and_all_full(self):
        for size in (1, MOST):
            row = Row(Jars([size] * 6), [Pour(0, 1), Change(1, 2)])
            paper = led(row, {jar: size for jar in range(6)})
            self.assertEqual((paper.start, paper.total), ((size,) * 6, 6 * size))
            paper = led(row, {5: 0, 0: 0})
            self.assertEqual((paper.start, paper.total), ((0,) * 6, 0))

    def test_the_old_riddle(self):
        row = Row(Jars([8, 5, 3]), [Pour(0, 1), Pour(1, 2), Pour(2, 0), Pour(1, 2), Pour(0, 1), Pour(1, 2), Pour(2, 0)])
        paper = led(row, {0: 4, 1: 4})
        self.assertEqual(paper.total, 8)
        self.assertEqual(behind(row, paper.start)[:2], [4, 4])
        self.assertTrue(is_led(row, {0: 4, 1: 4}, paper))

    def test_a_wish_that_is_changed_later(self):
        row = Row(Jars([3, 2]), [Pour(0, 1)])
        wish = {1: 2}
        paper = led(row, wish)
        again = led(row, {1: 2})
        wish[0] = 9
        wish[1] = 0
        self.assertEqual(paper, again)
        self.assertEqual(led(row, wish).__class__, NoneLed)
        self.assertEqual(wish, {0: 9, 1: 0})
        del wish[0]
        self.assertEqual(led(row, wish).total, 0)

    def test_the_order_of_the_wish(self):
        row = Row(Jars([8, 5, 3]), [Pour(0, 1), Pour(1, 2)])
        self.assertEqual(led(row, {2: 3, 0: 1}), led(row, {0: 1, 2: 3}))

    def test_a_number_below_nought(self):
        row = Row(Jars([3]), [])
        self.assertEqual(led(row, {0: -1}).__class__, NoneLed)


class AllStartsTest(unittest.TestCase):
    def looked_at(self, row, wish, starts):
        ends = [start for start, after in starts if all(after[jar] == wish[jar] for jar in wish)]
        paper = led(row, wish)
        self.assertIs(is_led(row, wish, paper), True)
        self.assertEqual(paper.tree, tree_of(row))
        asked = asked_bounds(row, wish)
        self.assertEqual(len(paper.lots), len(asked))
        self.assertIs(paper.lots.__class__, list)
        if not ends:
            self.assertIs(paper.__class__, NoneLed)
            for lot, bounds in zip(paper.lots, asked):
                self.assertTrue(shows(lot, bounds, 0, 1))
            return False
        self.assertIs(paper.__class__, Led)
        self.assertIs(paper.start.__class__, tuple)
        self.assertIn(paper.start, ends)
        self.assertEqual(paper.total, sum(paper.start))
        self.assertEqual(paper.total, min([sum(start) for start in ends]))
        for lot, bounds in zip(paper.lots, asked):
            self.assertTrue(shows(lot, bounds, 0, 1) or shows(lot, bounds, 1, paper.total))
        for start in ends:
            told = is_led(row, wish, Led(start, sum(start), paper.tree, paper.lots))
            self.assertIs(told, sum(start) == paper.total)
        return True

    def test_all_rows_of_one_deed_and_all_wishes(self):
        for sizes in ((2,), (1, 1), (2, 1)):
            for deeds in [[]] + [[deed] for deed in all_deeds(sizes, max(sizes) + 1)]:
                row = Row(Jars(sizes), deeds)
                starts = [(start, behind(row, start)) for start in all_starts(sizes, 1)]
                for numbers in product(*[(None, *range(size + 2)) for size in sizes]):
                    wish = {jar: number for jar, number in enumerate(numbers) if number is not None}
                    self.looked_at(row, wish, starts)

    def test_drawn_rows(self):
        drawn = random.Random(51)
        seen = []
        for row, _ in small_rows(drawn, 200):
            sizes = row.jars.sizes
            starts = [(start, behind(row, start)) for start in all_starts(sizes, 1)]
            for _ in range(4):
                _, after = drawn.choice(starts)
                wish = {}
                for jar, size in enumerate(sizes):
                    if drawn.random() < 0.6:
                        wish[jar] = after[jar] if drawn.random() < 0.7 else drawn.randint(0, size)
                seen.append(self.looked_at(row, wish, starts))
                if not seen[-1]:
                    self.by_no_halves(row, wish)
        self.assertGreater(seen.count(True), 200)
        self.assertGreater(seen.count(False), 50)

    def by_no_halves(self, row, wish):
        """Where no whole start leads to the wish, none at all does."""
        for parts in (2, 3):
            for start in all_starts(row.jars.sizes, parts)[:200]:
                after = behind(row, start, parts=parts)
                self.assertFalse(all(after[jar] == wish[jar] * parts for jar in wish))

    def test_large_rows(self):
        drawn = random.Random(52)
        looked = 0
        while looked < 150:
            sizes = [drawn.choice((1, MOST, drawn.randint(1, MOST))) for _ in range(drawn.randint(1, 6))]
            row = drawn_row(drawn, sizes, drawn.randint(1, 14))
            if is_wide(row):
                continue
            looked += 1
            start = [drawn.choice((0, size, drawn.randint(0, size))) for size in sizes]
            wish = dict(enumerate(behind(row, start)))
            paper = led(row, wish)
            self.assertLessEqual(paper.total, sum(start))
            self.assertEqual(behind(row, paper.start), list(wish.values()))
            self.assertTrue(is_led(row, wish, paper))
            jar = drawn.randrange(len(sizes))
            del wish[jar]
            self.assertLessEqual(led(row, wish).total, paper.total)
            wish[jar] = sizes[jar] + 1
            self.assertIs(led(row, wish).__class__, NoneLed)
            self.assertTrue(is_led(row, wish, led(row, wish)))

    def test_twenty_four_leaves(self):
        row = by_ones(MOST, 3, 5)
        paper = led(row, {0: 7, 1: MOST - 5})
        self.assertEqual((paper.start, len(paper.lots)), ((10, MOST), 24))
        self.assertTrue(is_led(row, {0: 7, 1: MOST - 5}, paper))


class SpoiltTest(unittest.TestCase):
    def setUp(self):
        self.row = Row(Jars([3, 2]), [Pour(0, 1)])

    def spoilt_lots(self, lots, right):
        """The lots, each time with one thing amiss; right tells whether a lot shows what it should."""
        for at, lot in enumerate(lots):
            changed = [lot + [Most((0,), MOST)] * 2, lot + [Least((1,), -1)], [Least((), 5)], lot + [None], [lot], []]
            changed += [None, {}, 5, "lot"]
            changed += [other for other in (lot[1:], lot[:-1], lot * 2, lot + lot[:1]) if not right(other)]
            for other in changed:
                yield lots[:at] + [other] + lots[at + 1:]
            yield lots[:at] + lots[at + 1:]
        yield []
        yield lots[::-1]
        yield lots + lots[-1:]

    def test_lots(self):
        def none(lot):
            return not any([load(lot, 0), load(lot, 1)]) and worth(lot) >= 1
        def no_lesser(lot):
            return none(lot) or max([load(lot, 0), load(lot, 1)]) <= 1 and worth(lot) >= 3
        for wish, right in (({0: 1}, no_lesser), ({0: 1, 1: 1}, none)):
            paper = led(self.row, wish)
            for lots in self.spoilt_lots(paper.lots, right):
                again = led(self.row, wish)
                again.lots = lots
                self.assertIs(is_led(self.row, wish, again), False, lots)
                again = led(self.row, wish)
                again.lots[:] = lots
                self.assertIs(is_led(self.row, wish, again), False, lots)

    def test_start_and_total(self):
        paper = led(self.row, {0: 1})
        self.assertEqual(paper.total, 3)
        starts = all_starts((3, 2), 1) + [(3,), (3, 0, 0), (), (3, -1), (-1, 2), (4, -1), (0, 3), (-1, 4)]
        for start in starts:
            for total in (0, 1, 2, 3, 4, sum(start)):
                right = start in ((3, 0), (2, 1), (1, 2)) and total == 3
                self.assertIs(is_led(self.row, {0: 1}, Led(start, total, paper.tree, paper.lots)), right)

    def test_tree_and_class(self):
        other = tree_of(Row(self.row.jars, [Pour(1, 0)]))
        for wish in ({0: 1}, {0: 1, 1: 1}):
            paper = led(self.row, wish)
            paper.tree = other
            self.assertIs(is_led(self.row, wish, paper), False)
            told = led(self.row, wish)
            self.assertIs(is_led(self.row, wish, NoneLed(told.tree, told.lots)), wish == {0: 1, 1: 1})
            self.assertIs(is_led(self.row, wish, Led((2, 1), 3, told.tree, told.lots)), wish == {0: 1})
            for spoilt in (None, 0, True, [], told.tree, Alike(told.tree, told.tree, {}), Parted((2, 1), 0, 3, {})):
                self.assertIs(is_led(self.row, wish, spoilt), False)

    def test_another_wish_or_row(self):
        paper = led(self.row, {0: 1})
        for wish in ({}, {0: 0}, {0: 2}, {1: 1}, {0: 1, 1: 1}, {0: 1, 1: 0}):
            self.assertIs(is_led(self.row, wish, paper), False)
        self.assertIs(is_led(Row(self.row.jars, []), {0: 1}, paper), False)
        self.assertIs(is_led(Row(Jars([4, 2]), [Pour(0, 1)]), {0: 1}, paper), True)

    def test_what_a_paper_may_have(self):
        for wish in ({0: 1}, {0: 1, 1: 1}):
            paper = led(self.row, wish)
            for at, lot in enumerate(paper.lots):
                paper.lots[at] = tuple(reversed(lot))
            self.assertTrue(is_led(self.row, wish, paper))
        paper = led(self.row, {0: 1})
        self.assertTrue(is_led(self.row, {0: 1}, Led([1, 2], 3, paper.tree, tuple(paper.lots))))


class RefusalsTest(Refusing):
    def asked(self, refusal, fields, row, wish):
        fine = Row(Jars([9, 9]), [])
        before = dict(wish)
        self.refused(refusal, fields, led, row, wish)
        for paper in (led(fine, {}), led(fine, {0: 10}), None, Led((), 0, Leaf(()), [])):
            self.refused(refusal, fields, is_led, row, wish, paper)
        self.assertEqual(wish, before)

    def test_no_jar(self):
        row = Row(Jars([9, 9]), [Pour(0, 1)])
        for jar in (-1, 2, 3, MOST, -MOST):
            self.asked(NoJar, {"jar": jar}, row, {jar: 0})
            self.asked(NoJar, {"jar": jar}, row, {1: 0, jar: 0, 0: 0})

    def test_the_least_key_that_is_no_jar(self):
        row = Row(Jars([9, 9]), [Pour(0, 1)])
        self.asked(NoJar, {"jar": 2}, row, {5: 0, 2: 0, 0: 0, 3: 0})
        self.asked(NoJar, {"jar": -2}, row, {5: 0, -1: 0, 0: 0, -2: 0})

    def test_wide(self):
        self.asked(Wide, {"count": 25}, by_ones(9, 4, 4), {})
        self.asked(Wide, {"count": 25}, by_ones(9, 4, 4), {0: 1, 1: 99})

    def test_no_jar_comes_ahead_of_wide(self):
        self.asked(NoJar, {"jar": 2}, by_ones(9, 4, 4), {2: 0})
        self.asked(NoJar, {"jar": -1}, by_ones(9, 4, 4), {9: 0, 0: 0, -1: 0})


if __name__ == "__main__":
    unittest.main()
