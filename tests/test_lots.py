"""What points 11 to 13 say of what a lot shows: wholedrops/lots.py, and the lots that wholedrops/nets.py tells."""

import random
import unittest

from houses import MOST, all_starts, box_of, drawn_row, is_wide, keeps, shows

from wholedrops.bounds import Apart, Least, Most
from wholedrops.jars import Jars
from wholedrops.lots import copied, copied_by_keys, shows_no_lesser, shows_no_room, shows_no_start
from wholedrops.nets import least_start
from wholedrops.trees import tree_of, ways


class ShowsTest(unittest.TestCase):
    def setUp(self):
        self.jars = Jars([8, 5])
        self.bounds = [Least((0, 1), 7), Most((0,), 4), Most((1,), 3), Most((1,), 2), Apart((0,), (1,), 3), Least((),
                                                                                                                  0)]
        self.bounds.append(Most((1,), 4))

    def told(self, lot, room, start, *totals):
        """Whether it shows that there is no room, no start, and none of a total less than each of these."""
        for handed in (list(lot), tuple(lot)):
            self.assertIs(shows_no_room(self.jars, self.bounds, handed), room)
            self.assertIs(shows_no_start(self.jars, self.bounds, handed), start)
            for total in range(-3, 12):
                shown = shows_no_lesser(self.jars, self.bounds, handed, total)
                self.assertIs(shown, start or bool(totals) and total <= totals[0])

    def test_what_lots_show(self):
        sums, four, three, two, apart, none, slack = self.bounds
        self.told([sums, four, three], True, False, 0)
        self.told([sums, four, two], True, True)
        self.told([sums, four, slack], False, False, -1)
        self.told([sums, four, four, slack, slack, sums, none], False, False, -2)
        self.told([sums], False, False, 7)
        self.told([sums, four], False, False, 3)
        self.told([four], False, False, -4)
        self.told([four, two], False, False, -6)
        self.told([apart], False, False, 3)
        self.told([apart, sums], False, False)
        self.told([apart, sums, four], False, False, 6)
        self.told([apart, sums, four, four], True, True)
        self.told([sums, sums], False, False)
        self.told([none], True, False, 0)
        self.told([none, none, none], True, False, 0)

    def test_no_bounds(self):
        self.told([], False, False, 0)

    def test_another_bound(self):
        for bound in (Least((0, 1), 8), Least((0,), 7), Most((0, 1), 7), Least((), 1), Apart((0,), (1,), 4)):
            self.told([bound], False, False)
            self.told([bound, *self.bounds[:3]], False, False)
            self.told([*self.bounds[:3], bound], False, False)

    def test_what_is_no_row_of_bounds(self):
        for lot in (None, 7, "lot", {}, {self.bounds[0].number: 1}, [None], [1, 2], [[self.bounds[0]]]):
            self.assertFalse(shows_no_room(self.jars, self.bounds, lot))
            self.assertFalse(shows_no_start(self.jars, self.bounds, lot))
            self.assertFalse(shows_no_lesser(self.jars, self.bounds, lot, 0))

    def test_copies(self):
        lot = [Least((0,), 1)]
        lots = {(0, 1): lot, (1, 0): tuple(lot), "more": None}
        told = copied_by_keys(lots)
        self.assertEqual(told, {(0, 1): lot, (1, 0): lot, "more": None})
        self.assertIsNot(told[(0, 1)], lot)
        self.assertEqual(copied(tuple(lot)), lot)
        self.assertIsNot(copied(lot), lot)


class LeastStartTest(unittest.TestCase):
    def looked_at(self, jars, bounds, starts):
        start, lot = least_start(jars, bounds)
        totals = [sum(one) for one in starts if keeps(bounds, one)]
        if totals == []:
            self.assertIs(start, None)
            self.assertTrue(shows(lot, bounds + box_of(jars), 0, 1))
            return False
        self.assertIs(start.__class__, tuple)
        self.assertIn(start, starts)
        self.assertTrue(keeps(bounds, start))
        self.assertEqual(sum(start), min(totals))
        self.assertTrue(shows(lot, bounds + box_of(jars), 1, min(totals)))
        return True

    def test_no_bounds(self):
        for size in (1, MOST):
            for many in (1, 6):
                start, lot = least_start(Jars([size] * many), [])
                self.assertEqual(start, (0,) * many)
                self.assertTrue(shows(lot, box_of(Jars([size] * many)), 1, 0))

    def test_one_group(self):
        jars = Jars([8, 5, 3])
        starts = all_starts(jars.sizes, 1)
        for number in range(-1, 18):
            self.assertEqual(self.looked_at(jars, [Least((0, 1, 2), number)], starts), number <= 16)
            self.assertEqual(self.looked_at(jars, [Most((0, 1, 2), number)], starts), number >= 0)
            self.assertEqual(self.looked_at(jars, [Apart((0, 1), (2,), number)], starts), number <= 13)
            self.assertEqual(self.looked_at(jars, [Apart((0, 1), (0, 1), number)], starts), number <= 0)
            self.assertEqual(self.looked_at(jars, [Apart((), (), number)], starts), number <= 0)

    def test_of_sums_of_two_ways(self):
        drawn = random.Random(31)
        seen = {True: 0, False: 0}
        for _ in range(250):
            sizes = [drawn.randint(1, 3) for _ in range(drawn.randint(1, 4))]
            starts = all_starts(sizes, 1)
            rows = [drawn_row(drawn, sizes, drawn.randint(1, 7)) for _ in range(2)]
            if is_wide(rows[0]) or is_wide(rows[1]):
                continue
            (one, sums), (other, more) = [drawn.choice(ways(row.jars, tree_of(row))) for row in rows]
            for mine in sums:
                theirs = drawn.choice(more)
                apart = Apart(mine.group, theirs.group, drawn.randint(-2, 4))
                seen[self.looked_at(rows[0].jars, one + other + [apart], starts)] += 1
        self.assertGreater(min(seen.values()), 100, seen)


if __name__ == "__main__":
    unittest.main()
