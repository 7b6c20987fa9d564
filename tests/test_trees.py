"""Points 2, 8 and 10, and the interface of wholedrops/trees.py."""

import inspect
import random
import unittest
from itertools import product

from houses import MOST, all_deeds, all_starts, box_of, by_ones, drawn_row, keeps, summed

from wholedrops import trees as module
from wholedrops.bounds import Least, Most
from wholedrops.errors import DropsError, Wide
from wholedrops.jars import Change, Draw, Jars, Pour, Put, Row
from wholedrops.nets import has_room
from wholedrops.stands import behind
from wholedrops.sums import Sum
from wholedrops.trees import Leaf, Test, Tree, tree_of, ways


class TooMany(Exception):
    """More than 24 leaves, by the tree that this file makes."""


def choice(sizes, deed, sums):
    """The test's group and limit, and the sums behind the first way and the second, by the document's words."""
    first, second = list(sums), list(sums)
    a = deed.a
    mine = sums[a]
    if isinstance(deed, Put):
        first[a] = Sum(mine.group, mine.more + deed.k)
        second[a] = Sum((), sizes[a])
        return mine.group, sizes[a] - mine.more - deed.k, first, second
    if isinstance(deed, Draw):
        first[a] = Sum((), 0)
        second[a] = Sum(mine.group, mine.more - deed.k)
        return mine.group, deed.k - mine.more, first, second
    b = deed.b
    both = Sum(tuple(sorted(mine.group + sums[b].group)), mine.more + sums[b].more)
    first[a], first[b] = Sum((), 0), both
    second[a], second[b] = Sum(both.group, both.more - sizes[b]), Sum((), sizes[b])
    return both.group, sizes[b] - both.more, first, second


class Asked:
    """A row's tree by the document's words, that asks has_room of each way."""

    def __init__(self, row):
        self.row = row
        self.leaves = 0

    def tree(self, at, sums, bounds):
        sizes = self.row.jars.sizes
        for number in range(at, len(self.row.deeds)):
            deed = self.row.deeds[number]
            if isinstance(deed, Change):
                sums = list(sums)
                sums[deed.a], sums[deed.b] = sums[deed.b], sums[deed.a]
                continue
            group, limit, first, second = choice(sizes, deed, sums)
            if group == ():
                sums = first if limit >= 0 else second
                continue
            most, least = bounds + [Most(group, limit)], bounds + [Least(group, limit)]
            rooms = has_room(self.row.jars, most) is True, has_room(self.row.jars, least) is True
            assert any(rooms)
            if all(rooms):
                return Test(number, group, limit, self.tree(number + 1, first, most),
                            self.tree(number + 1, second, least))
            sums = first if rooms[0] else second
        self.leaves += 1
        if self.leaves > 24:
            raise TooMany
        return Leaf(sums)


def asked_tree(row):
    jars = row.jars
    return Asked(row).tree(0, [Sum((jar,), 0) for jar in range(len(jars.sizes))], box_of(jars))


class InterfaceTest(unittest.TestCase):
    def test_all_is_defined_in_this_file(self):
        for name in ("Tree", "Leaf", "Test"):
            self.assertTrue(inspect.isclass(getattr(module, name)))
            self.assertEqual(getattr(module, name).__module__, "wholedrops.trees")
        for name in ("tree_of", "ways"):
            self.assertTrue(inspect.isfunction(getattr(module, name)))
            self.assertEqual(getattr(module, name).__module__, "wholedrops.trees")

    def test_both_stand_under_tree(self):
        self.assertTrue(issubclass(Leaf, Tree))
        self.assertTrue(issubclass(Test, Tree))
        self.assertFalse(issubclass(Leaf, Test))
        self.assertFalse(issubclass(Test, Leaf))

    def test_arguments(self):
        leaf = Leaf(sums=[Sum((0,), 0)])
        self.assertEqual(leaf, Leaf((Sum((0,), 0),)))
        test = Test(second=leaf, first=leaf, limit=3, group=(0,), deed=2)
        self.assertEqual(test, Test(2, (0,), 3, leaf, leaf))
        row = Row(Jars([3]), [])
        self.assertEqual(tree_of(row=row), leaf)
        self.assertEqual(ways(tree=leaf, jars=row.jars), ways(row.jars, leaf))


class FieldsTest(unittest.TestCase):
    def setUp(self):
        self.leaf = Leaf((Sum((0,), 0), Sum((), 2)))
        self.other = Leaf((Sum((0,), 0), Sum((), 3)))

    def test_fields(self):
        self.assertEqual(vars(self.leaf), {"sums": (Sum((0,), 0), Sum((), 2))})
        test = Test(4, [1, 0], -3, self.leaf, self.other)
        self.assertEqual((test.deed, test.group, test.limit), (4, (0, 1), -3))
        self.assertIs(test.group.__class__, tuple)
        self.assertIs(test.first, self.leaf)
        self.assertIs(test.second, self.other)
        self.assertEqual(sorted(vars(test)), ["deed", "first", "group", "limit", "second"])

    def test_lists_that_are_handed_in(self):
        sums, group = [Sum((0,), 0)], [0]
        leaf = Leaf(sums)
        test = Test(0, group, 1, leaf, leaf)
        self.assertIs(leaf.sums.__class__, tuple)
        sums.append(Sum((), 1))
        group.append(1)
        self.assertEqual(leaf, Leaf((Sum((0,), 0),)))
        self.assertEqual(test.group, (0,))

    def test_equal_by_class_and_fields(self):
        leaf, other = self.leaf, self.other
        def made():
            found = [Leaf(()), Leaf((Sum((0,), 0),)), Leaf((Sum((0,), 0), Sum((), 2))), Leaf(other.sums)]
            found += [Test(0, (0,), 1, leaf, other), Test(1, (0,), 1, leaf, other), Test(0, (1,), 1, leaf, other)]
            found += [Test(0, (0,), 2, leaf, other), Test(0, (0,), 1, other, other), Test(0, (0,), 1, leaf, leaf)]
            return found + [Test(0, (0,), 1, found[4], found[5]), Test(0, (0,), 1, found[4], found[6])]
        for i, tree in enumerate(made()):
            for j, again in enumerate(made()):
                self.assertEqual(tree == again, i == j)
                self.assertEqual(tree != again, i != j)

    def test_equal_to_no_thing_of_another_kind(self):
        for tree in (self.leaf, Test(0, (0,), 1, self.leaf, self.other)):
            for other in (None, 0, "", (), self.leaf.sums, (0, (0,), 1, self.leaf, self.other), Sum((0,), 0), Tree()):
                self.assertFalse(tree == other)
                self.assertFalse(other == tree)
                self.assertTrue(tree != other)


class TreesTest(unittest.TestCase):
    def told(self, sizes, deeds, tree):
        self.assertEqual(tree_of(Row(Jars(sizes), deeds)), tree)

    def test_no_deeds(self):
        self.told([3], [], Leaf((Sum((0,), 0),)))
        self.told([3, 1, MOST], [], Leaf((Sum((0,), 0), Sum((1,), 0), Sum((2,), 0))))

    def test_a_pour(self):
        first = Leaf((Sum((), 0), Sum((0, 1), 0)))
        self.told([8, 5], [Pour(0, 1)], Test(0, (0, 1), 5, first, Leaf((Sum((0, 1), -5), Sum((), 5)))))
        first = Leaf((Sum((0, 1), 0), Sum((), 0)))
        self.told([8, 5], [Pour(1, 0)], Test(0, (0, 1), 8, first, Leaf((Sum((), 8), Sum((0, 1), -8)))))

    def test_a_put(self):
        self.told([8], [Put(0, 3)], Test(0, (0,), 5, Leaf((Sum((0,), 3),)), Leaf((Sum((), 8),))))
        self.told([8], [Put(0, 7)], Test(0, (0,), 1, Leaf((Sum((0,), 7),)), Leaf((Sum((), 8),))))

    def test_a_draw(self):
        self.told([8], [Draw(0, 3)], Test(0, (0,), 3, Leaf((Sum((), 0),)), Leaf((Sum((0,), -3),))))
        self.told([8], [Draw(0, 7)], Test(0, (0,), 7, Leaf((Sum((), 0),)), Leaf((Sum((0,), -7),))))

    def test_amounts_at_a_size_and_above(self):
        for k in (8, 9, MOST):
            self.told([8, 2], [Put(0, k)], Leaf((Sum((), 8), Sum((1,), 0))))
            self.told([8, 2], [Draw(0, k)], Leaf((Sum((), 0), Sum((1,), 0))))

    def test_a_change(self):
        self.told([8, 5, 8], [Change(0, 2)], Leaf((Sum((2,), 0), Sum((1,), 0), Sum((0,), 0))))
        first = Leaf((Sum((2,), 0), Sum((1,), 0), Sum((0,), 3)))
        second = Leaf((Sum((2,), 0), Sum((1,), 0), Sum((), 8)))
        self.told([8, 5, 8], [Put(0, 3), Change(2, 0)], Test(0, (0,), 5, first, second))
        first = Leaf((Sum((2,), 3), Sum((1,), 0), Sum((0,), 0)))
        second = Leaf((Sum((), 8), Sum((1,), 0), Sum((0,), 0)))
        self.told([8, 5, 8], [Change(0, 2), Put(0, 3)], Test(1, (2,), 5, first, second))

    def test_groups_of_no_jar(self):
        # Behind Draw(0, 3) of a jar of 3 the jar is empty, and a test of it is of no jar.
        empty = [Draw(0, 3)]
        self.told([3, 2], empty + [Put(0, 2)], Leaf((Sum((), 2), Sum((1,), 0))))
        self.told([3, 2], empty + [Put(0, 3)], Leaf((Sum((), 3), Sum((1,), 0))))
        self.told([3, 2], empty + [Put(0, 4)], Leaf((Sum((), 3), Sum((1,), 0))))
        self.told([3, 2], empty + [Draw(0, 1)], Leaf((Sum((), 0), Sum((1,), 0))))
        full = [Put(0, 3)]
        self.told([3, 2], full + [Draw(0, 1)], Leaf((Sum((), 2), Sum((1,), 0))))
        self.told([3, 2], full + [Draw(0, 3)], Leaf((Sum((), 0), Sum((1,), 0))))
        self.told([3, 2], full + [Draw(1, 2), Pour(0, 1)], Leaf((Sum((), 1), Sum((), 2))))
        self.told([2, 2], [Put(0, 2), Draw(1, 2), Pour(0, 1)], Leaf((Sum((), 0), Sum((), 2))))
        self.told([3, 2], full + [Draw(1, 2), Pour(1, 0)], Leaf((Sum((), 3), Sum((), 0))))

    def test_a_full_and_an_empty_jar(self):
        self.told([3, 2], [Put(0, 3), Pour(1, 0)], Leaf((Sum((), 3), Sum((1,), 0))))
        self.told([3, 2], [Draw(0, 3), Pour(0, 1)], Leaf((Sum((), 0), Sum((1,), 0))))
        self.told([3, 2], [Draw(0, 3), Pour(1, 0)], Leaf((Sum((1,), 0), Sum((), 0))))
        self.told([3, 2], [Put(0, 3), Pour(0, 1)], Leaf((Sum((1,), 1), Sum((), 2))))

    def test_limits_just_met(self):
        # Of [3, 5] the two together are 8 at most, which has just room: no start with room fills the second jar.
        drawn = Leaf((Sum((), 0), Sum((0,), 0)))
        poured = Leaf((Sum((), 0), Sum((0, 1), -3)))
        kept = Leaf((Sum((0, 1), -8), Sum((), 5)))
        self.told([3, 5], [Draw(1, 3), Pour(0, 1)], Test(0, (1,), 3, drawn, poured))
        self.told([4, 5], [Draw(1, 3), Pour(0, 1)], Test(0, (1,), 3, drawn, Test(1, (0, 1), 8, poured, kept)))
        self.told([8], [Draw(0, 3), Put(0, 3)], Test(0, (0,), 3, Leaf((Sum((), 3),)), Leaf((Sum((0,), 0),))))
        self.told([8], [Draw(0, 3), Draw(0, 5)], Test(0, (0,), 3, Leaf((Sum((), 0),)), Leaf((Sum((), 0),))))

    def test_the_same_sums_on_both_sides(self):
        # A test stands where both ways have room, whatever they come to.
        self.told([1, 1], [Pour(0, 1), Draw(0, 1), Draw(1, 1)],
                  Test(0, (0, 1), 1, Leaf((Sum((), 0), Sum((), 0))), Leaf((Sum((), 0), Sum((), 0)))))

    def test_two_pours(self):
        poured = Leaf((Sum((), 0), Sum((), 0), Sum((0, 1, 2), 0)))
        kept = Leaf((Sum((), 0), Sum((0, 1, 2), -3), Sum((), 3)))
        # Five in the second jar are more than have room in the third, whatever that holds.
        full = Leaf((Sum((0, 1), -5), Sum((2,), 2), Sum((), 3)))
        self.told([8, 5, 3], [Pour(0, 1), Pour(1, 2)], Test(0, (0, 1), 5, Test(1, (0, 1, 2), 3, poured, kept), full))

    def test_sizes_up_to_the_most(self):
        first = Leaf((Sum((), 0), Sum((0, 1), 0)))
        second = Leaf((Sum((0, 1), -MOST), Sum((), MOST)))
        self.told([MOST, MOST], [Pour(0, 1)], Test(0, (0, 1), MOST, first, second))
        self.told([MOST], [Put(0, MOST - 1)], Test(0, (0,), 1, Leaf((Sum((0,), MOST - 1),)), Leaf((Sum((), MOST),))))
        self.told([MOST], [Put(0, MOST)], Leaf((Sum((), MOST),)))


class AskedTest(unittest.TestCase):
    """The trees are those that has_room makes, by the document's words."""

    def same(self, row):
        try:
            asked = asked_tree(row)
        except TooMany:
            with self.assertRaises(Wide):
                tree_of(row)
            return None
        told = tree_of(row)
        self.assertEqual(told, asked)
        return told

    def test_all_rows_of_two_deeds(self):
        for sizes in ((2, 1), (2, 2), (1, 2, 1)):
            deeds = all_deeds(sizes, max(sizes) + 1)
            for pair in product(deeds, deeds):
                self.same(Row(Jars(sizes), pair))

    def test_drawn_rows(self):
        drawn = random.Random(21)
        wide = 0
        for most in (1, 2, 3, 7, 100, MOST):
            for _ in range(60):
                sizes = [drawn.randint(1, most) for _ in range(drawn.randint(1, 6))]
                wide += self.same(drawn_row(drawn, sizes, drawn.randint(3, 12))) is None
        self.assertGreater(wide, 3)


class WaysTest(unittest.TestCase):
    def test_the_order_of_ways_and_bounds(self):
        jars = Jars([4, 5])
        tree = tree_of(Row(jars, [Draw(1, 3), Pour(0, 1), Put(0, 1)]))
        box = [Least((0,), 0), Most((0,), 4), Least((1,), 0), Most((1,), 5)]
        told = ways(jars, tree)
        self.assertEqual(told, [
            (box + [Most((1,), 3)], (Sum((), 1), Sum((0,), 0))),
            (box + [Least((1,), 3), Most((0, 1), 8)], (Sum((), 1), Sum((0, 1), -3))),
            (box + [Least((1,), 3), Least((0, 1), 8)], (Sum((0, 1), -7), Sum((), 5))),
        ])

    def test_of_a_leaf_alone(self):
        leaf = Leaf((Sum((), 1), Sum((0, 1), 0)))
        box = [Least((0,), 0), Most((0,), 7), Least((1,), 0), Most((1,), 8)]
        self.assertEqual(ways(Jars([7, 8]), leaf), [(box, leaf.sums)])

    def test_of_a_tree_that_is_no_rows(self):
        leaves = [Leaf((Sum((), number),)) for number in range(4)]
        tree = Test(0, (0,), 5, Test(3, (), 0, leaves[0], leaves[1]), Test(1, (0,), -2, leaves[2], leaves[3]))
        box = [Least((0,), 0), Most((0,), 7)]
        self.assertEqual(ways(Jars([7]), tree), [
            (box + [Most((0,), 5), Most((), 0)], leaves[0].sums),
            (box + [Most((0,), 5), Least((), 0)], leaves[1].sums),
            (box + [Least((0,), 5), Most((0,), -2)], leaves[2].sums),
            (box + [Least((0,), 5), Least((0,), -2)], leaves[3].sums),
        ])

    def test_kinds_and_new_lists(self):
        jars = Jars([4, 5])
        row = Row(jars, [Draw(1, 3), Pour(0, 1)])
        tree = tree_of(row)
        told = ways(jars, tree)
        self.assertIs(told.__class__, list)
        for pair in told:
            self.assertIs(pair.__class__, tuple)
            self.assertEqual([part.__class__ for part in pair], [list, tuple])
        again = ways(jars, tree)
        self.assertEqual(again, told)
        told[0][0].clear()
        told[1][0].pop()
        del told[2:]
        self.assertEqual(ways(jars, tree), again)
        self.assertEqual(tree, tree_of(row))
        self.assertEqual(row, Row(Jars([4, 5]), [Draw(1, 3), Pour(0, 1)]))


class AllStartsTest(unittest.TestCase):
    """Each start keeps the bounds of some way, and each way that it keeps tells what is behind."""

    def looked_at(self, row, parts):
        told = ways(row.jars, tree_of(row))
        for start in all_starts(row.jars.sizes, parts):
            after = behind(row, start, parts=parts)
            kept = 0
            for bounds, sums in told:
                if keeps(bounds, start, parts):
                    kept += 1
                    self.assertEqual([summed(one.group, start) + one.more * parts for one in sums], after)
            self.assertGreater(kept, 0, (row.deeds, start))

    def test_all_rows_of_two_deeds(self):
        sizes = (2, 1, 2)
        deeds = all_deeds(sizes, 3)
        for pair in product(deeds, deeds):
            row = Row(Jars(sizes), pair)
            self.looked_at(row, 1)
            self.looked_at(row, 2)

    def test_drawn_rows(self):
        drawn = random.Random(9)
        looked = 0
        while looked < 250:
            sizes = [drawn.randint(1, 4) for _ in range(drawn.randint(1, 3))]
            row = drawn_row(drawn, sizes, drawn.randint(3, 9))
            try:
                tree_of(row)
            except Wide:
                continue
            looked += 1
            for parts in (1, 3):
                self.looked_at(row, parts)

    def test_each_way_has_room_and_is_of_one_family(self):
        drawn = random.Random(10)
        for _ in range(200):
            sizes = [drawn.randint(1, 9) for _ in range(drawn.randint(1, 6))]
            row = drawn_row(drawn, sizes, drawn.randint(1, 8))
            try:
                tree = tree_of(row)
            except Wide:
                continue
            for bounds, _ in ways(row.jars, tree):
                self.assertIs(has_room(row.jars, bounds), True)
                groups = [set(bound.group) for bound in bounds]
                for one in groups:
                    for other in groups:
                        self.assertTrue(not one & other or one <= other or other <= one)

    def test_drawn_starts_of_large_jars(self):
        drawn = random.Random(12)
        looked = 0
        while looked < 150:
            sizes = [drawn.randint(1, MOST) for _ in range(6)]
            row = drawn_row(drawn, sizes, drawn.randint(1, 8))
            try:
                told = ways(row.jars, tree_of(row))
            except Wide:
                continue
            looked += 1
            for _ in range(20):
                parts = drawn.choice((1, 2, 7, 10 ** 6))
                start = [drawn.choice((0, size * parts, drawn.randint(0, size * parts))) for size in sizes]
                after = behind(row, start, parts=parts)
                kept = [sums for bounds, sums in told if keeps(bounds, start, parts)]
                self.assertTrue(kept)
                for sums in kept:
                    self.assertEqual([summed(one.group, start) + one.more * parts for one in sums], after)


class WideTest(unittest.TestCase):
    def refused(self, row):
        with self.assertRaises(DropsError) as caught:
            tree_of(row)
        self.assertIs(caught.exception.__class__, Wide)
        self.assertEqual(vars(caught.exception), {"count": 25})

    def test_twenty_four_leaves(self):
        for many in ((3, 5), (5, 3), (1, 1, 1, 2), (1, 2, 3), (7, 2)):
            row = by_ones(9, *many)
            self.assertEqual(len(ways(row.jars, tree_of(row))), 24)

    def test_a_jar_of_twenty_draws(self):
        row = Row(Jars([30]), [Draw(0, 1)] * 20)
        self.assertEqual(len(ways(row.jars, tree_of(row))), 21)

    def test_twenty_five_leaves(self):
        row = by_ones(9, 4, 4)
        self.refused(row)
        self.assertEqual(row, by_ones(9, 4, 4))
        self.refused(row)

    def test_many_more_leaves(self):
        for many in ((1, 1, 1, 1, 1), (2, 2, 2), (4, 5), (9, 9), (4, 4, 3, 3, 3, 3)):
            self.refused(by_ones(9, *many))

    def test_much_room_for_all_is_not_wide(self):
        row = Row(Jars([MOST] * 6), [Draw(jar, MOST) for jar in range(6)] + [Put(0, 1), Pour(0, 1)] * 7)
        self.assertEqual(len(ways(row.jars, tree_of(row))), 1)


if __name__ == "__main__":
    unittest.main()
