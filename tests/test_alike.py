"""Points 2, 12, 13 and 14, and the interface of wholedrops/alike.py."""

import random
import unittest
from itertools import product

from houses import (
    MOST, Refusing, all_deeds, all_starts, box_of, by_ones, drawn_row, is_wide, near_row, shows, small_rows,
)

from wholedrops import alike as module
from wholedrops.alike import Alike, Parted, are_alike, held, is_alike, is_parted, more
from wholedrops.bounds import Apart, Least, Most, load, worth
from wholedrops.errors import NoJar, OtherJars, Wide
from wholedrops.jars import Change, Draw, Jars, Pour, Put, Row
from wholedrops.led import NoneLed
from wholedrops.nets import has_room
from wholedrops.stands import behind
from wholedrops.sums import Sum
from wholedrops.trees import Leaf, Test, tree_of, ways

SIDES = ("above", "below")


def no_load(lot):
    return not any([load(lot, jar) for jar in range(6)])


def put_and_drawn(size):
    """Alike to no deeds up to the size less one, and unlike where the jar is full."""
    return Row(Jars([size]), [Put(0, 1), Draw(0, 1)])


def unlike(row, other):
    """For each pair of ways with unlike sums its key, the bounds of both and the sums of both."""
    ours, theirs = ways(row.jars, tree_of(row)), ways(row.jars, tree_of(other))
    for (i, (bounds, sums)), (j, (others, other_sums)) in product(enumerate(ours), enumerate(theirs)):
        if sums != other_sums:
            yield (i, j), bounds + others, sums, other_sums


def apart_of(side, mine, theirs):
    """The bound by the document's words."""
    if side == "above":
        return Apart(mine.group, theirs.group, 1 - mine.more + theirs.more)
    return Apart(theirs.group, mine.group, 1 - theirs.more + mine.more)


class InterfaceTest(unittest.TestCase):
    def test_all_is_defined_in_this_file(self):
        Refusing().defined(module, ("Alike", "Parted"), ("held", "is_alike", "is_parted", "more"))
        for kind in (Alike, Parted):
            self.assertIn("__init__", vars(kind))
            self.assertIn("__eq__", vars(kind))

    def test_arguments(self):
        row, other = put_and_drawn(3), Row(Jars([3]), [])
        paper = held(other=other, row=row)
        self.assertEqual(paper, held(row, other))
        self.assertIs(is_parted(paper=paper, other=other, row=row), True)
        self.assertIs(is_alike(paper=held(row, row), other=row, row=row), True)
        self.assertEqual(more(jar=0, other=row, row=other), (3,))
        with self.assertRaises(TypeError):
            more(other, row, 0)
        leaf = Leaf((Sum((0,), 0),))
        self.assertEqual(Alike(lots={}, other=leaf, tree=leaf), Alike(leaf, leaf, {}))
        self.assertEqual(Parted(lots={}, total=3, jar=0, start=(3,)), Parted((3,), 0, 3, {}))


class PapersTest(unittest.TestCase):
    def setUp(self):
        self.leaf = Leaf((Sum((0,), 0),))
        self.other = Leaf((Sum((0,), 1),))
        self.lots = {(0, 1): [Least((0,), 1)], (1, 0): (Most((0,), 2),)}

    def made(self):
        """Papers no two of which are equal."""
        leaf, other, lots = self.leaf, self.other, self.lots
        lesser = {(0, 1): [Least((0,), 1)]}
        found = [Alike(leaf, other, lots), Alike(other, other, lots), Alike(leaf, leaf, lots)]
        found += [Alike(leaf, other, lesser), Alike(leaf, other, {(0, 1): []}), Alike(leaf, other, {})]
        found += [Parted((1, 2), 0, 3, lots), Parted((2, 1), 0, 3, lots), Parted((1, 2), 1, 3, lots)]
        return found + [Parted((1, 2), 0, 4, lots), Parted((1, 2), 0, 3, lesser), Parted((1, 2), 0, 3, {})]

    def test_fields(self):
        told = {(0, 1): [Least((0,), 1)], (1, 0): [Most((0,), 2)]}
        paper = Alike(self.leaf, self.other, self.lots)
        self.assertIs(paper.tree, self.leaf)
        self.assertIs(paper.other, self.other)
        self.assertEqual(paper.lots, told)
        for start in ((1, 2), [1, 2]):
            paper = Parted(start, 0, 3, self.lots)
            self.assertEqual((paper.start, paper.jar, paper.total), ((1, 2), 0, 3))
            self.assertIs(paper.start.__class__, tuple)
            self.assertEqual(paper.lots, told)
            self.assertEqual([lot.__class__ for lot in paper.lots.values()], [list, list])

    def test_equal_by_class_and_fields(self):
        for i, paper in enumerate(self.made()):
            for j, again in enumerate(self.made()):
                self.assertEqual(paper == again, i == j)
                self.assertEqual(paper != again, i != j)

    def test_equal_to_no_thing_of_another_kind(self):
        for paper in (Alike(self.leaf, self.leaf, {}), Parted((0,), 0, 0, {})):
            for other in (None, 0, {}, (), ((0,), 0, 0, {}), self.leaf, NoneLed(self.leaf, []), True):
                self.assertFalse(paper == other)
                self.assertFalse(other == paper)

    def test_what_is_handed_in_is_free_of_the_paper(self):
        start = [1, 2]
        papers = [Alike(self.leaf, self.other, self.lots), Parted(start, 0, 3, self.lots)]
        again = [Alike(self.leaf, self.other, self.lots), Parted((1, 2), 0, 3, self.lots)]
        start.append(3)
        self.lots[(0, 1)].append(Least((), 0))
        self.lots[(2, 2)] = []
        self.assertEqual(papers, again)

    def test_what_a_paper_tells_is_the_askers_own(self):
        for paper in (Alike(self.leaf, self.other, self.lots), Parted((1, 2), 0, 3, self.lots)):
            told = paper.lots
            told[(0, 1)].append(Least((), 0))
            told[(2, 2)] = []
            del told[(1, 0)]
            self.assertEqual(paper.lots, {(0, 1): [Least((0,), 1)], (1, 0): [Most((0,), 2)]})

    def test_lots_that_are_set(self):
        for paper in (Alike(self.leaf, self.other, self.lots), Parted((1, 2), 0, 3, self.lots)):
            lots = {(0, 0): [Least((0,), 5)]}
            paper.lots = lots
            lots[(0, 0)].clear()
            self.assertEqual(paper.lots, {(0, 0): [Least((0,), 5)]})


class HeldTest(unittest.TestCase):
    def test_a_put_and_a_draw_against_no_deeds(self):
        for size in (1, 2, 3, MOST):
            row, other = put_and_drawn(size), Row(Jars([size]), [])
            paper = held(row, other)
            self.assertIs(paper.__class__, Parted)
            self.assertEqual((paper.start, paper.jar, paper.total), ((size,), 0, size))
            self.assertTrue(is_parted(row, other, paper))
            self.assertFalse(is_alike(row, other, paper))

    def test_the_lots_of_a_parted(self):
        row, other = put_and_drawn(3), Row(Jars([3]), [])
        # The first ways tell the same; the second one fills the jar: it tells 2, and the other row what there was.
        self.assertEqual(tree_of(row), Test(0, (0,), 2, Leaf((Sum((0,), 0),)), Leaf((Sum((), 2),))))
        bounds = box_of(row.jars) + [Least((0,), 2)]
        lots = held(row, other).lots
        self.assertEqual(sorted(lots), [(1, 0, 0, "above"), (1, 0, 0, "below")])
        self.assertTrue(shows(lots[(1, 0, 0, "above")], bounds + [Apart((), (0,), -1)], 0, 1))
        self.assertTrue(shows(lots[(1, 0, 0, "below")], bounds + [Apart((0,), (), 3)], 1, 3))

    def test_the_lots_of_an_alike(self):
        row = Row(Jars([3, 2]), [Pour(0, 1)])
        paper = held(row, Row(Jars([3, 2]), [Pour(0, 1), Pour(0, 1)]))
        self.assertIs(paper.__class__, Alike)
        self.assertEqual(paper.tree, tree_of(row))
        self.assertEqual(paper.other, tree_of(row))
        self.assertEqual(sorted(paper.lots), [(0, 1), (1, 0)])
        bounds = box_of(row.jars) + [Most((0, 1), 2), Least((0, 1), 2)]
        for lot in paper.lots.values():
            self.assertTrue(shows(lot, bounds, 0, 0))
            self.assertTrue(lot)

    def test_no_deeds(self):
        for sizes in ([1], [MOST], [1, 1, 1, 1, 1, 1], [MOST] * 6):
            row = Row(Jars(sizes), [])
            leaf = Leaf([Sum((jar,), 0) for jar in range(len(sizes))])
            self.assertEqual(held(row, row), Alike(leaf, leaf, {}))
            self.assertTrue(is_alike(row, row, Alike(leaf, leaf, {})))

    def test_total_nought(self):
        one, other = Row(Jars([5, 2]), [Put(1, 1)]), Row(Jars([5, 2]), [])
        for row, against in ((one, other), (other, one)):
            paper = held(row, against)
            self.assertEqual((paper.start, paper.jar, paper.total), ((0, 0), 1, 0))
            self.assertTrue(is_parted(row, against, paper))

    def test_all_full(self):
        # What is left in the first jar behind the pours is more than its size less one where all jars are full alone.
        for size in (1, 2, MOST):
            jars = Jars([size] * 6)
            deeds = [Pour(0, jar) for jar in range(1, 6)]
            one, other = Row(jars, deeds), Row(jars, deeds + [Put(0, 1), Draw(0, 1)])
            paper = held(one, other)
            self.assertEqual((paper.start, paper.jar, paper.total), ((size,) * 6, 0, 6 * size))
            self.assertTrue(is_parted(one, other, paper))

    def test_the_least_jar_is_told(self):
        jars = Jars([3, 3, 3])
        one = Row(jars, [Put(2, 1), Put(1, 1)])
        paper = held(one, Row(jars, []))
        self.assertEqual((paper.start, paper.jar), ((0, 0, 0), 1))
        paper = held(one, Row(jars, [Put(1, 1)]))
        self.assertEqual((paper.start, paper.jar), ((0, 0, 0), 2))

    def test_changes(self):
        jars = Jars([3, 3])
        self.assertIs(held(Row(jars, [Change(0, 1), Change(1, 0)]), Row(jars, [])).__class__, Alike)
        paper = held(Row(jars, [Change(0, 1)]), Row(jars, []))
        self.assertEqual((paper.jar, paper.total), (0, 1))
        self.assertIn(paper.start, ((1, 0), (0, 1)))

    def test_jars_of_one(self):
        # At whole starts a jar of 1 is empty or full: a pour and a change are the same for two such but at (0, 1).
        jars = Jars([1, 1])
        paper = held(Row(jars, [Pour(0, 1)]), Row(jars, [Change(0, 1)]))
        self.assertEqual((paper.start, paper.jar, paper.total), ((0, 1), 0, 1))
        self.assertTrue(is_parted(Row(jars, [Pour(0, 1)]), Row(jars, [Change(0, 1)]), paper))

    def test_the_same_at_each_asking_and_new_lists(self):
        row, other = put_and_drawn(3), Row(Jars([3]), [])
        for one, two in ((row, other), (row, row)):
            paper = held(one, two)
            self.assertEqual(paper, held(one, two))
            paper.lots = {}
            self.assertNotEqual(paper, held(one, two))
        self.assertEqual((row, other), (put_and_drawn(3), Row(Jars([3]), [])))


class AllStartsTest(unittest.TestCase):
    """What is told, against all whole starts of small houses, and starts in parts."""

    def looked_at(self, row, other):
        starts = all_starts(row.jars.sizes, 1)
        parting = [start for start in starts if behind(row, start) != behind(other, start)]
        paper = held(row, other)
        self.assertIs(are_alike(row, other), not parting)
        if parting:
            self.parted(row, other, paper, parting)
        else:
            self.alike(row, other, paper)
        return not parting

    def alike(self, row, other, paper):
        self.assertIs(paper.__class__, Alike)
        self.assertEqual((paper.tree, paper.other), (tree_of(row), tree_of(other)))
        lots = paper.lots
        for key, bounds, _, _ in unlike(row, other):
            lot = lots.pop(key)
            self.assertTrue(lot and shows(lot, bounds, 0, 0))
        self.assertEqual(lots, {})
        self.assertIs(is_alike(row, other, paper), True)
        self.assertIs(is_parted(row, other, paper), False)
        for parts in (2, 3):
            for start in all_starts(row.jars.sizes, parts)[:200]:
                self.assertEqual(behind(row, start, parts=parts), behind(other, start, parts=parts))

    def parted(self, row, other, paper, parting):
        self.assertIs(paper.__class__, Parted)
        self.assertIs(paper.start.__class__, tuple)
        self.assertIn(paper.start, parting)
        self.assertEqual(paper.total, sum(paper.start))
        self.assertEqual(paper.total, min([sum(start) for start in parting]))
        after, against = behind(row, paper.start), behind(other, paper.start)
        self.assertEqual([one == two for one, two in zip(after, against)].index(False), paper.jar)
        lots = paper.lots
        for key, bounds, sums, other_sums in unlike(row, other):
            if has_room(row.jars, bounds) is not True:
                lot = lots.pop(key)
                self.assertTrue(lot and shows(lot, bounds, 0, 0))
                continue
            for jar, (mine, theirs) in enumerate(zip(sums, other_sums)):
                for side in SIDES if mine != theirs else ():
                    with_apart = bounds + [apart_of(side, mine, theirs)]
                    lot = lots.pop((*key, jar, side))
                    self.assertTrue(shows(lot, with_apart, 0, 1) or shows(lot, with_apart, 1, paper.total))
        self.assertEqual(lots, {})
        self.assertIs(is_parted(row, other, paper), True)
        self.assertIs(is_alike(row, other, paper), False)
        for start in parting:
            jar = max(range(len(start)), key=lambda one: behind(row, start)[one] != behind(other, start)[one])
            again = Parted(start, jar, sum(start), paper.lots)
            self.assertIs(is_parted(row, other, again), sum(start) == paper.total)

    def test_all_rows_of_one_deed(self):
        for sizes in ((2,), (1, 1), (2, 1), (2, 2)):
            rows = [Row(Jars(sizes), [])] + [Row(Jars(sizes), [deed]) for deed in all_deeds(sizes, max(sizes) + 1)]
            for row, other in product(rows, rows):
                self.looked_at(row, other)

    def test_all_rows_of_two_deeds_of_one_jar(self):
        deeds = all_deeds((3,), 3)
        rows = [Row(Jars([3]), pair) for pair in product(deeds, deeds)]
        for row, other in product(rows, rows):
            self.looked_at(row, other)

    def test_drawn_rows(self):
        drawn = random.Random(41)
        alike = [self.looked_at(row, other) for row, other in small_rows(drawn, 400)]
        self.assertGreater(alike.count(True), 80)
        self.assertGreater(alike.count(False), 80)


class SpoiltTest(unittest.TestCase):
    """Papers with one thing amiss are not let by, and those with something more are."""

    def spoilt_lots(self, lots, key, right):
        """The lots, each time with the one of this key spoilt; right tells whether a lot shows what it should."""
        lot = lots[key]
        changed = [lot + [Most((0,), MOST)] * 2, lot + [Least((1,), -1)], [Least((), 5)], [Least((1,), MOST)]]
        changed += [None, {}, 5, "lot", lot + [None], [lot], [], [Least((0,), 0), Most((0,), 3)]]
        changed += [other for other in (lot[1:], lot[:-1], lot * 2, lot + lot[:1], lot + lot[-1:]) if not right(other)]
        for other in changed:
            yield {**lots, key: other}
        yield {other: lots[other] for other in lots if other != key}
        yield {other if other != key else key[:-1]: lots[other] for other in lots}

    def test_alike(self):
        jars = Jars([3, 2])
        row, other = Row(jars, [Pour(0, 1)]), Row(jars, [Pour(0, 1), Pour(0, 1)])
        paper = held(row, other)
        tree = tree_of(Row(jars, [Pour(1, 0)]))
        for spoilt in (Alike(tree, paper.other, paper.lots), Alike(paper.tree, tree, paper.lots)):
            self.assertIs(is_alike(row, other, spoilt), False)
        for key in paper.lots:
            for lots in self.spoilt_lots(paper.lots, key, lambda lot: lot and no_load(lot) and worth(lot) >= 0):
                self.assertIs(is_alike(row, other, Alike(paper.tree, paper.other, lots)), False, lots)
        self.assertIs(is_alike(row, Row(jars, []), paper), False)
        for spoilt in (None, 0, True, paper.lots, paper.tree, NoneLed(paper.tree, []), Parted((0, 0), 0, 0, {})):
            self.assertIs(is_alike(row, other, spoilt), False)

    def test_alike_by_fields_that_are_set(self):
        row = Row(Jars([3, 2]), [Pour(0, 1)])
        for field in ("tree", "other", "lots"):
            paper = held(row, row)
            self.assertTrue(is_alike(row, row, paper))
            setattr(paper, field, {} if field == "lots" else Leaf(()))
            self.assertFalse(is_alike(row, row, paper))

    def test_what_an_alike_may_have(self):
        row = Row(Jars([3, 2]), [Pour(0, 1)])
        paper = held(row, row)
        lots = {key: tuple(reversed(lot)) for key, lot in paper.lots.items()}
        lots.update({(0, 0): [], (7, 7): None, "more": [1], (0, 1, 0, "above"): []})
        self.assertTrue(is_alike(row, row, Alike(paper.tree, paper.other, lots)))
        lots = {key: lot * 3 for key, lot in paper.lots.items()}
        self.assertTrue(is_alike(row, row, Alike(paper.tree, paper.other, lots)))

    def test_no_lot_of_no_bounds(self):
        # No bounds have no load and are worth nought, but they show nothing.
        row = Row(Jars([3, 2]), [Pour(0, 1)])
        paper = held(row, row)
        self.assertFalse(is_alike(row, row, Alike(paper.tree, paper.other, {key: [] for key in paper.lots})))

    def test_no_alike_of_rows_that_part(self):
        row, other = put_and_drawn(3), Row(Jars([3]), [])
        self.assertFalse(is_alike(row, other, Alike(tree_of(row), tree_of(other), {})))
        self.assertFalse(is_alike(row, other, Alike(tree_of(row), tree_of(other), {(1, 0): [Least((0,), 2)]})))
        self.assertFalse(is_alike(row, other, Alike(tree_of(row), tree_of(row), held(row, row).lots)))

    def parted_rows(self):
        jars = Jars([3, 2])
        return Row(jars, [Pour(0, 1)]), Row(jars, [Pour(0, 1), Put(1, 1), Draw(1, 1)])

    def test_parted_start_jar_and_total(self):
        row, other = self.parted_rows()
        paper = held(row, other)
        self.assertEqual((sum(paper.start), paper.jar, paper.total), (2, 1, 2))
        for start in all_starts((3, 2), 1) + [(2,), (2, 0, 0), (), (-1, 2), (3, -1), (0, 3), (4, 0), (4, -2)]:
            for jar in (-2, -1, 0, 1, 2, MOST):
                for total in (0, 1, 2, 3, sum(start), MOST):
                    right = start in ((2, 0), (1, 1), (0, 2)) and jar == 1 and total == 2
                    told = is_parted(row, other, Parted(start, jar, total, paper.lots))
                    self.assertIs(told, right, (start, jar, total))

    def test_parted_lots(self):
        row, other = self.parted_rows()
        paper = held(row, other)
        self.assertGreater(len({len(key) for key in paper.lots}), 1)
        def no_room(lot):
            return lot and no_load(lot) and worth(lot) >= 0
        def no_lesser(lot):
            return max([load(lot, jar) for jar in (0, 1)]) <= 1 and worth(lot) >= 2 or no_load(lot) and worth(lot) >= 1
        for key in paper.lots:
            for lots in self.spoilt_lots(paper.lots, key, no_room if len(key) == 2 else no_lesser):
                spoilt = Parted(paper.start, paper.jar, paper.total, lots)
                self.assertIs(is_parted(row, other, spoilt), False, (key, lots))
        self.assertFalse(is_parted(row, row, paper))
        for spoilt in (None, 0, True, paper.lots, Alike(tree_of(row), tree_of(other), paper.lots)):
            self.assertIs(is_parted(row, other, spoilt), False)

    def test_parted_by_fields_that_are_set(self):
        row, other = self.parted_rows()
        for field, value in (("start", (3, 0)), ("start", (2,)), ("jar", 0), ("jar", 2), ("total", 1), ("lots", {})):
            paper = held(row, other)
            self.assertTrue(is_parted(row, other, paper))
            setattr(paper, field, value)
            self.assertFalse(is_parted(row, other, paper))

    def test_what_a_parted_may_have(self):
        row, other = self.parted_rows()
        paper = held(row, other)
        lots = {key: tuple(reversed(lot)) for key, lot in paper.lots.items()}
        lots.update({(7, 7): [], "more": None, (0, 0): []})
        self.assertTrue(is_parted(row, other, Parted([1, 1], 1, 2, lots)))
        # Of the jars that the start parts any will do.
        jars = Jars([3, 3])
        row, other = Row(jars, [Change(0, 1)]), Row(jars, [])
        paper = held(row, other)
        for start, jar in product(((1, 0), (0, 1)), (0, 1)):
            self.assertTrue(is_parted(row, other, Parted(start, jar, 1, paper.lots)))

    def test_total_nought_wants_its_lots(self):
        row, other = Row(Jars([2]), [Put(0, 1)]), Row(Jars([2]), [])
        paper = held(row, other)
        self.assertEqual(paper.total, 0)
        self.assertFalse(is_parted(row, other, Parted((0,), 0, 0, {})))
        # A lot of no bounds has no load and is worth nought: no start has less than that.
        self.assertTrue(is_parted(row, other, Parted((0,), 0, 0, {key: [] for key in paper.lots})))


class LargeTest(unittest.TestCase):
    def looked_at(self, drawn, row, other):
        paper = held(row, other)
        if paper.__class__ is Alike:
            self.assertTrue(is_alike(row, other, paper))
            for _ in range(20):
                parts = drawn.choice((1, 2, 7))
                start = [drawn.choice((0, size * parts, drawn.randint(0, size * parts))) for size in row.jars.sizes]
                self.assertEqual(behind(row, start, parts=parts), behind(other, start, parts=parts))
            return True
        self.assertTrue(is_parted(row, other, paper))
        self.assertNotEqual(behind(row, paper.start)[paper.jar], behind(other, paper.start)[paper.jar])
        self.assertFalse(is_parted(row, other, Parted(paper.start, paper.jar, paper.total - 1, paper.lots)))
        return False

    def test_drawn_rows(self):
        drawn = random.Random(43)
        told = []
        while len(told) < 250:
            sizes = [drawn.choice((1, MOST, drawn.randint(1, MOST))) for _ in range(drawn.randint(1, 6))]
            row = drawn_row(drawn, sizes, drawn.randint(1, 14))
            other = near_row(drawn, row) if len(told) % 2 else drawn_row(drawn, sizes, drawn.randint(1, 14))
            if not is_wide(row) and not is_wide(other):
                told.append(self.looked_at(drawn, row, other))
        self.assertGreater(told.count(True), 40)
        self.assertGreater(told.count(False), 100)

    def test_twenty_four_leaves_each(self):
        drawn = random.Random(44)
        jars = Jars([MOST] * 6)
        rows = [Row(jars, [Draw(jar, k) for jar, often in many for _ in range(often)])
                for many, k in ((((0, 3), (1, 5)), 1), (((2, 3), (3, 5)), 1), (((0, 1), (1, 1), (2, 1), (3, 2)), 3))]
        for row, other in product(rows, rows):
            self.assertEqual(self.looked_at(drawn, row, other), row == other)
        paper = held(rows[0], rows[1])
        self.assertEqual((paper.total, paper.jar), (1, 3 if paper.start[3] else paper.start.index(1)))

    def test_twenty_draws_against_one(self):
        row, other = Row(Jars([MOST]), [Draw(0, 1)] * 20), Row(Jars([MOST]), [Draw(0, 20)])
        self.assertIs(held(row, other).__class__, Alike)
        paper = held(row, Row(Jars([MOST]), [Draw(0, 19)]))
        self.assertEqual((paper.start, paper.jar, paper.total), ((20,), 0, 20))


class RefusalsTest(Refusing):
    def setUp(self):
        self.wide = by_ones(9, 4, 4)
        self.fine = by_ones(9, 3, 5)
        self.other = Row(Jars([9, 8]), [Draw(0, 1)])
        self.wide_other = Row(Jars([9, 9, 9]), [Draw(jar, 1) for jar in (0, 1, 2)] * 3)

    def asked(self, refusal, fields, row, other):
        paper = held(self.fine, self.fine)
        before = [Row(one.jars, one.deeds) for one in (row, other)]
        for call in (held, is_alike, is_parted, more):
            given = (row, other) if call in (held, more) else (row, other, paper)
            named = {"jar": 1} if call is more else {}
            self.refused(refusal, fields, call, *given, **named)
        self.refused(refusal, fields, are_alike, row, other)
        for spoilt in (None, Parted((), 9, 0, {}), Alike(paper.tree, paper.tree, {})):
            self.refused(refusal, fields, is_alike, row, other, spoilt)
            self.refused(refusal, fields, is_parted, row, other, spoilt)
        self.assertEqual([row, other], before)

    def test_other_jars(self):
        self.asked(OtherJars, {}, self.fine, self.other)
        self.asked(OtherJars, {}, self.other, self.fine)
        self.asked(OtherJars, {}, Row(Jars([9, 9]), []), Row(Jars([9, 9, 9]), []))
        self.asked(OtherJars, {}, Row(Jars([9, 8]), []), Row(Jars([8, 9]), []))

    def test_wide(self):
        self.asked(Wide, {"count": 25}, self.wide, self.fine)
        self.asked(Wide, {"count": 25}, self.fine, self.wide)
        self.asked(Wide, {"count": 25}, self.wide, self.wide)

    def test_other_jars_come_ahead_of_wide(self):
        self.asked(OtherJars, {}, self.wide, self.other)
        self.asked(OtherJars, {}, self.other, self.wide)
        self.asked(OtherJars, {}, self.wide, self.wide_other)

    def test_no_jar(self):
        for jar in (-1, -2, 2, 3, MOST):
            self.refused(NoJar, {"jar": jar}, more, self.fine, self.fine, jar=jar)
            self.refused(NoJar, {"jar": jar}, more, self.wide, self.fine, jar=jar)
            self.refused(NoJar, {"jar": jar}, more, self.fine, self.wide, jar=jar)
            self.refused(OtherJars, {}, more, self.fine, self.other, jar=jar)
            self.refused(OtherJars, {}, more, self.wide, self.wide_other, jar=jar)

    def test_twenty_four_leaves_are_not_wide(self):
        self.assertIs(held(self.fine, self.fine).__class__, Alike)


class MoreTest(unittest.TestCase):
    def looked_at(self, row, other):
        starts = all_starts(row.jars.sizes, 1)
        halves = all_starts(row.jars.sizes, 2)[:200]
        found = set()
        for jar in range(len(row.jars.sizes)):
            told = more(row, other, jar=jar)
            found.add(told is None)
            self.assertEqual(told, more(row, other, jar=jar))
            if told is None:
                self.assertFalse([one for one in starts if behind(row, one)[jar] > behind(other, one)[jar]])
                for one in halves:
                    self.assertLessEqual(behind(row, one, parts=2)[jar], behind(other, one, parts=2)[jar])
            else:
                self.assertIs(told.__class__, tuple)
                self.assertIn(told, starts)
                self.assertGreater(behind(row, told)[jar], behind(other, told)[jar])
        return found

    def test_both_ways(self):
        row, other = put_and_drawn(3), Row(Jars([3]), [])
        self.assertIs(more(row, other, jar=0), None)
        self.assertEqual(more(other, row, jar=0), (3,))
        self.assertIs(more(row, row, jar=0), None)
        jars = Jars([3, 3])
        self.assertTrue(more(Row(jars, [Change(0, 1)]), Row(jars, []), jar=1))
        self.assertTrue(more(Row(jars, []), Row(jars, [Change(0, 1)]), jar=1))
        self.assertIs(more(Row(jars, [Put(0, 1)]), Row(jars, []), jar=1), None)

    def test_all_rows_of_one_deed(self):
        for sizes in ((2,), (1, 1), (2, 1)):
            rows = [Row(Jars(sizes), [])] + [Row(Jars(sizes), [deed]) for deed in all_deeds(sizes, max(sizes) + 1)]
            for row, other in product(rows, rows):
                self.looked_at(row, other)

    def test_drawn_rows(self):
        drawn = random.Random(42)
        found = [self.looked_at(row, other) for row, other in small_rows(drawn, 200)]
        self.assertGreater(len([one for one in found if True in one]), 50)
        self.assertGreater(len([one for one in found if False in one]), 50)

    def test_large(self):
        row, other = Row(Jars([MOST] * 6), [Pour(0, 5)]), Row(Jars([MOST] * 6), [Pour(0, 5), Put(5, 1), Draw(5, 1)])
        told = more(row, other, jar=5)
        self.assertGreater(behind(row, told)[5], behind(other, told)[5])
        self.assertIs(more(other, row, jar=5), None)
        self.assertIs(more(other, row, jar=0), None)


if __name__ == "__main__":
    unittest.main()
