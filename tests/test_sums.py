"""Points 2 and 7, and the interface of wholedrops/sums.py."""

import inspect
import unittest

from wholedrops import sums as module
from wholedrops.bounds import Least, Most
from wholedrops.sums import Sum

MOST = 10 ** 12


class SumTest(unittest.TestCase):
    def test_sum_is_defined_in_this_file(self):
        self.assertTrue(inspect.isclass(module.Sum))
        self.assertEqual(module.Sum.__module__, "wholedrops.sums")
        self.assertIn("__init__", vars(module.Sum))

    def test_fields(self):
        for told in (Sum((0, 2), -3), Sum(group=(0, 2), more=-3), Sum(more=-3, group=[0, 2])):
            self.assertEqual(told.group, (0, 2))
            self.assertIs(told.group.__class__, tuple)
            self.assertEqual(told.more, -3)
            self.assertEqual(sorted(vars(told)), ["group", "more"])

    def test_the_group_is_sorted(self):
        self.assertEqual(Sum((2, 0, 1), 0).group, (0, 1, 2))
        self.assertEqual(Sum([5, 3], 0), Sum((3, 5), 0))

    def test_edges(self):
        self.assertEqual(Sum((), 0).group, ())
        self.assertEqual(Sum((0, 1, 2, 3, 4, 5), 6 * MOST).group, (0, 1, 2, 3, 4, 5))
        self.assertEqual(Sum((), -6 * MOST).more, -6 * MOST)

    def test_equal_where_both_are(self):
        self.assertTrue(Sum((0, 1), 2) == Sum((0, 1), 2))
        self.assertFalse(Sum((0, 1), 2) != Sum((0, 1), 2))
        self.assertFalse(Sum((0, 1), 2) == Sum((0, 1), 3))
        self.assertFalse(Sum((0, 1), 2) == Sum((0,), 2))
        self.assertFalse(Sum((), 2) == Sum((2,), 0))

    def test_equal_to_no_thing_of_another_kind(self):
        for other in (((0,), 2), [(0,), 2], (0,), 2, "0", None, Least((0,), 2), Most((0,), 2)):
            self.assertFalse(Sum((0,), 2) == other)
            self.assertFalse(other == Sum((0,), 2))
            self.assertTrue(Sum((0,), 2) != other)

    def test_a_list_that_is_handed_in(self):
        group = [1, 0]
        told = Sum(group, 2)
        self.assertEqual(group, [1, 0])
        group.append(5)
        self.assertEqual(told, Sum((0, 1), 2))


if __name__ == "__main__":
    unittest.main()
