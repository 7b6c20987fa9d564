"""Points 2, 9, 11 and the first sentences of 13, and the interface of wholedrops/bounds.py."""

import inspect
import random
import unittest

from houses import all_starts, keeps

from wholedrops import bounds as module
from wholedrops.bounds import Apart, Bound, Least, Most, load, worth
from wholedrops.sums import Sum

MOST = 10 ** 12


class InterfaceTest(unittest.TestCase):
    def test_all_is_defined_in_this_file(self):
        for name in ("Bound", "Most", "Least", "Apart"):
            self.assertTrue(inspect.isclass(getattr(module, name)))
            self.assertEqual(getattr(module, name).__module__, "wholedrops.bounds")
        for name in ("load", "worth"):
            self.assertTrue(inspect.isfunction(getattr(module, name)))
            self.assertEqual(getattr(module, name).__module__, "wholedrops.bounds")

    def test_all_stand_under_bound(self):
        kinds = (Most, Least, Apart)
        for kind in kinds:
            self.assertTrue(issubclass(kind, Bound))
            for other in kinds:
                self.assertEqual(issubclass(kind, other), kind is other)

    def test_arguments(self):
        self.assertEqual(Most(number=3, group=(0,)), Most((0,), 3))
        self.assertEqual(Least(number=3, group=(0,)), Least((0,), 3))
        self.assertEqual(Apart(number=3, theirs=(1,), ours=(0,)), Apart((0,), (1,), 3))
        lot = [Least((0,), 3)]
        self.assertEqual(load(jar=0, lot=lot), load(lot, 0))
        self.assertEqual(worth(lot=lot), worth(lot))


class FieldsTest(unittest.TestCase):
    def test_of_a_group(self):
        for kind in (Most, Least):
            for group in ((0, 2), [0, 2], [2, 0]):
                bound = kind(group, -7)
                self.assertEqual(vars(bound), {"group": (0, 2), "number": -7})
                self.assertIs(bound.group.__class__, tuple)
            self.assertEqual(vars(kind((), MOST)), {"group": (), "number": MOST})

    def test_of_two_groups(self):
        for ours, theirs in (((0, 2), (1,)), ([0, 2], [1]), ([2, 0], [1])):
            bound = Apart(ours, theirs, -7)
            self.assertEqual(vars(bound), {"ours": (0, 2), "theirs": (1,), "number": -7})
            self.assertIs(bound.ours.__class__, tuple)
            self.assertIs(bound.theirs.__class__, tuple)

    def test_lists_that_are_handed_in(self):
        ours, theirs = [1, 0], [3, 2]
        told = (Most(ours, 4), Least(ours, 4), Apart(ours, theirs, 4))
        self.assertEqual((ours, theirs), ([1, 0], [3, 2]))
        ours.append(5)
        theirs.clear()
        self.assertEqual(told, (Most((0, 1), 4), Least((0, 1), 4), Apart((0, 1), (2, 3), 4)))


class EqualTest(unittest.TestCase):
    def test_by_class_and_fields(self):
        def made():
            groups = ((), (0,), (1,))
            found = [kind(group, number) for kind in (Most, Least) for group in groups for number in (-1, 0)]
            return found + [Apart(ours, theirs, number) for ours in groups for theirs in groups for number in (-1, 0)]
        for i, bound in enumerate(made()):
            for j, other in enumerate(made()):
                self.assertEqual(bound == other, i == j)
                self.assertEqual(bound != other, i != j)

    def test_equal_to_no_thing_of_another_kind(self):
        bounds = (Most((0,), 2), Least((0,), 2), Apart((0,), (), 2))
        for bound in bounds:
            for other in (((0,), 2), [(0,), 2], (0,), 2, "0", None, Sum((0,), 2), Bound()):
                self.assertFalse(bound == other)
                self.assertFalse(other == bound)
                self.assertTrue(bound != other)


class LotsTest(unittest.TestCase):
    def test_the_load_counts_least_less_most(self):
        lot = [Least((0, 1), 5), Most((1, 2), 3), Least((1,), 2)]
        self.assertEqual([load(lot, jar) for jar in range(4)], [1, 1, -1, 0])
        self.assertEqual(worth(lot), 4)

    def test_the_same_bound_often(self):
        bound = Least((0, 2), 3)
        other = Most((0,), 10)
        lot = [bound, bound, other, Least((0, 2), 3), other]
        self.assertEqual([load(lot, jar) for jar in range(3)], [1, 0, 3])
        self.assertEqual(worth(lot), -11)
        self.assertEqual(load([bound] * 1000, 2), 1000)
        self.assertEqual(worth([bound] * 1000), 3000)

    def test_apart_counts_as_a_least_and_a_most_of_nought(self):
        for ours in ((), (0,), (0, 1), (1, 2)):
            for theirs in ((), (2,), (1,), (0, 1)):
                for number in (-4, 0, 1, MOST):
                    lot = [Apart(ours, theirs, number), Least((1,), 2)]
                    same = [Least(ours, number), Most(theirs, 0), Least((1,), 2)]
                    self.assertEqual([load(lot, jar) for jar in range(4)], [load(same, jar) for jar in range(4)])
                    self.assertEqual(worth(lot), worth(same))
        self.assertEqual([load([Apart((0, 1), (2,), 7)], jar) for jar in range(4)], [1, 1, -1, 0])
        self.assertEqual(worth([Apart((0, 1), (2,), 7)]), 7)

    def test_groups_of_no_jar(self):
        lot = [Most((), -1), Least((), 4)]
        self.assertEqual([load(lot, jar) for jar in range(3)], [0, 0, 0])
        self.assertEqual(worth(lot), 5)

    def test_an_empty_lot(self):
        for lot in ([], ()):
            self.assertEqual(load(lot, 0), 0)
            self.assertEqual(worth(lot), 0)

    def test_a_list_or_a_tuple_will_do_and_is_not_changed(self):
        lot = [Least((0,), MOST), Most((0, 1), -MOST), Apart((1,), (0,), 3)]
        for handed in (list(lot), tuple(lot)):
            self.assertEqual(load(handed, 0), -1)
            self.assertEqual(load(handed, 1), 0)
            self.assertEqual(worth(handed), 2 * MOST + 3)
            self.assertEqual(list(handed), lot)

    def test_load_times_amount_is_at_least_the_worth(self):
        drawn = random.Random(11)
        groups = ((), (0,), (1,), (2,), (0, 1), (1, 2), (0, 2), (0, 1, 2))
        starts = all_starts((2, 1, 2), 2)
        for _ in range(300):
            lot = [drawn.choice((Most, Least))(drawn.choice(groups), drawn.randint(-2, 4)) for _ in range(3)]
            lot.append(Apart(drawn.choice(groups), drawn.choice(groups), drawn.randint(-2, 2)))
            loads = [load(lot, jar) for jar in range(3)]
            for start in starts:
                if keeps(lot, start, 2):
                    reached = sum(times * number for times, number in zip(loads, start))
                    self.assertGreaterEqual(reached, worth(lot) * 2)


if __name__ == "__main__":
    unittest.main()
