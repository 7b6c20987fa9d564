"""Points 2 and 15, and the interface of wholedrops/rounds.py."""

import random
import unittest
from math import lcm

from houses import MOST, Refusing, all_starts, by_ones, small_rows

from wholedrops import rounds as module
from wholedrops.errors import BadCount, BadStart, Wide
from wholedrops.jars import Change, Draw, Jars, Pour, Put, Row
from wholedrops.rounds import Turning, fate, turning
from wholedrops.stands import behind


def plain_fate(row, start, parts):
    """By the document's words: the least tail and the least ring, all stands kept and gone through."""
    stands = [list(start)]
    while True:
        stands.append(behind(row, stands[-1], parts=parts))
        for tail, stand in enumerate(stands[:-1]):
            if stand == stands[-1]:
                return tail, len(stands) - 1 - tail


class InterfaceTest(unittest.TestCase):
    def test_all_is_defined_in_this_file(self):
        Refusing().defined(module, ("Turning",), ("fate", "turning"))

    def test_arguments(self):
        row = Row(Jars([3]), [Put(0, 1)])
        self.assertEqual(fate(row, [0]), (3, 1))
        self.assertEqual(fate(parts=2, start=[1], row=row), (3, 1))
        self.assertEqual(turning(row=row), turning(row))
        with self.assertRaises(TypeError):
            fate(row, [0], 1)


class FateTest(unittest.TestCase):
    def test_tails(self):
        row = Row(Jars([3]), [Put(0, 1)])
        self.assertEqual([fate(row, (number,)) for number in range(4)], [(3, 1), (2, 1), (1, 1), (0, 1)])
        self.assertEqual([fate(row, [number], parts=2) for number in range(7)],
                         [(3, 1), (3, 1), (2, 1), (2, 1), (1, 1), (1, 1), (0, 1)])

    def test_rings(self):
        row = Row(Jars([2, 2, 2]), [Change(0, 1), Change(1, 2)])
        self.assertEqual(fate(row, [0, 1, 2]), (0, 3))
        self.assertEqual(fate(row, [1, 1, 2]), (0, 3))
        self.assertEqual(fate(row, [1, 1, 1]), (0, 1))
        row = Row(Jars([9, 9]), [Change(0, 1)])
        self.assertEqual(fate(row, [9, 0]), (0, 2))
        self.assertEqual(fate(row, [9, 9]), (0, 1))

    def test_tail_and_ring(self):
        row = Row(Jars([9, 9, 4]), [Change(0, 1), Put(2, 1)])
        self.assertEqual(fate(row, [9, 0, 1]), (3, 2))
        self.assertEqual(fate(row, [5, 5, 1]), (3, 1))

    def test_no_deeds(self):
        for parts in (1, 7):
            self.assertEqual(fate(Row(Jars([MOST] * 6), []), [5] * 6, parts=parts), (0, 1))

    def test_a_list_or_a_tuple_will_do_and_a_tuple_is_told(self):
        row = Row(Jars([3, 3]), [Pour(0, 1), Draw(1, 1)])
        for start in ([3, 3], (3, 3)):
            told = fate(row, start)
            self.assertIs(told.__class__, tuple)
            self.assertEqual(told, plain_fate(row, start, 1))
        start = [3, 3]
        fate(row, start)
        self.assertEqual(start, [3, 3])

    def test_all_starts_of_small_houses(self):
        drawn = random.Random(61)
        for row, _ in small_rows(drawn, 60):
            for parts in (1, 2, 3):
                for start in all_starts(row.jars.sizes, parts)[::7]:
                    self.assertEqual(fate(row, start, parts=parts), plain_fate(row, start, parts))

    def test_many_rounds(self):
        row = Row(Jars([MOST]), [Put(0, 1)])
        self.assertEqual(fate(row, [MOST - 19998]), (19998, 1))
        self.assertEqual(fate(row, [MOST - 19999]), (19999, 1))
        self.assertEqual(fate(row, [(MOST - 19999) * 5], parts=5), (19999, 1))
        row = Row(Jars([MOST, 7, 7]), [Put(0, 1), Change(1, 2)])
        self.assertEqual(fate(row, [MOST - 19998, 0, 7]), (19998, 2))

    def test_a_row_may_be_wide(self):
        row = by_ones(9, 4, 4)
        self.assertEqual(fate(row, [9, 9]), (3, 1))


class FateRefusalsTest(Refusing):
    def test_more_than_twenty_thousand(self):
        row = Row(Jars([MOST]), [Put(0, 1)])
        for start in (MOST - 20000, MOST - 20001, 0):
            self.refused(Wide, {"count": 20001}, fate, row, [start])
        self.refused(Wide, {"count": 20001}, fate, row, [0], parts=MOST)
        row = Row(Jars([MOST, 7, 7]), [Put(0, 1), Change(1, 2)])
        self.refused(Wide, {"count": 20001}, fate, row, [MOST - 19999, 0, 7])
        self.assertEqual(fate(row, [MOST - 19999, 7, 7]), (19999, 1))

    def test_refused_as_a_start(self):
        row = Row(Jars([MOST, 5]), [Put(0, 1)])
        self.refused(BadCount, {"what": "parts", "count": 0}, fate, row, [9], parts=0)
        self.refused(BadCount, {"what": "parts", "count": -3}, fate, row, [0, 6], parts=-3)
        self.refused(BadCount, {"what": "start", "count": 1}, fate, row, [-1])
        self.refused(BadCount, {"what": "start", "count": 3}, fate, row, [0, 0, 0])
        self.refused(BadStart, {"jar": 1}, fate, row, [0, 6])
        self.refused(BadStart, {"jar": 0}, fate, row, [-1, 6])
        self.refused(BadStart, {"jar": 1}, fate, row, [0, 11], parts=2)


class TurningTest(unittest.TestCase):
    def looked_at(self, row):
        starts = all_starts(row.jars.sizes, 1)
        fates = {start: plain_fate(row, start, 1) for start in starts}
        told = turning(row)
        self.assertIs(told.__class__, Turning)
        self.assertEqual(told.tail, max([tail for tail, _ in fates.values()]))
        self.assertEqual(told.ring, lcm(*[ring for _, ring in fates.values()]))
        self.assertIs(told.late.__class__, tuple)
        self.assertEqual(fates[told.late][0], told.tail)
        self.assertIs(told.rings.__class__, list)
        self.assertEqual({start.__class__ for start in told.rings}, {tuple})
        self.assertEqual(lcm(*[fates[start][1] for start in told.rings]), told.ring)
        return told

    def test_all_starts_of_small_houses(self):
        drawn = random.Random(62)
        seen = {}
        for row, other in small_rows(drawn, 100):
            for one in (row, other):
                told = self.looked_at(one)
                seen[told.ring] = seen.get(told.ring, 0) + 1
                for parts in (2, 3):
                    for start in all_starts(row.jars.sizes, parts)[:200]:
                        tail, ring = fate(one, start, parts=parts)
                        self.assertLessEqual(tail, told.tail)
                        self.assertEqual(told.ring % ring, 0)
        self.assertGreater(len(seen), 2, seen)

    def test_tail_nought_and_ring_one(self):
        told = turning(Row(Jars([3, 2]), []))
        self.assertEqual((told.tail, told.ring), (0, 1))
        self.assertEqual(self.looked_at(Row(Jars([3, 2]), [])), told)

    def test_a_tail(self):
        told = turning(Row(Jars([7]), [Put(0, 2)]))
        self.assertEqual((told.tail, told.ring), (4, 1))
        self.assertIn(told.late, ((0,), (1,)) if told.tail == 4 else ())
        self.assertEqual(turning(Row(Jars([1]), [Put(0, 1)])).tail, 1)

    def test_rings_of_unlike_lengths(self):
        # Three jars go round in threes, two in twos: some starts have a ring of 3, some of 2, and 6 does for all.
        row = Row(Jars([2, 2, 2, 3, 3]), [Change(0, 1), Change(1, 2), Change(3, 4)])
        told = self.looked_at(row)
        self.assertEqual((told.tail, told.ring), (0, 6))

    def test_a_ring_that_no_start_has_alone(self):
        row = Row(Jars([3, 1, 1, 2, 2]), [Pour(1, 2), Pour(4, 1), Change(3, 4), Pour(2, 3)])
        told = self.looked_at(row)
        self.assertEqual(told.ring, 6)
        self.assertGreater(len(told.rings), 1)
        self.assertEqual({fate(row, start)[1] for start in all_starts(row.jars.sizes, 1)}, {1, 2, 3})

    def test_two_thousand_whole_starts(self):
        told = turning(Row(Jars([1999]), [Put(0, 1)]))
        self.assertEqual((told.tail, told.ring, told.late), (1999, 1, (0,)))
        told = turning(Row(Jars([3, 4, 9, 9]), [Change(2, 3), Draw(1, 1)]))
        self.assertEqual((told.tail, told.ring), (4, 2))
        self.assertEqual(turning(Row(Jars([1999]), [Put(0, 1), Draw(0, 1)])).tail, 1)

    def test_a_row_may_be_wide(self):
        self.assertEqual(turning(by_ones(5, 4, 4)).tail, 2)

    def test_the_same_at_each_asking_and_new_lists(self):
        row = Row(Jars([2, 2, 3]), [Change(0, 1), Put(2, 1)])
        told = turning(row)
        self.assertEqual(told, turning(row))
        rings = told.rings
        rings.clear()
        self.assertTrue(told.rings)
        told.rings.append((9, 9, 9))
        self.assertEqual(told, turning(row))
        self.assertEqual(row, Row(Jars([2, 2, 3]), [Change(0, 1), Put(2, 1)]))

    def test_equal_by_fields(self):
        def made():
            return [Turning(1, 2, (0,), [(1,)]), Turning(0, 2, (0,), [(1,)]), Turning(1, 1, (0,), [(1,)]),
                    Turning(1, 2, (1,), [(1,)]), Turning(1, 2, (0,), [])]
        for i, one in enumerate(made()):
            for j, other in enumerate(made()):
                self.assertEqual(one == other, i == j)
            self.assertFalse(one == (one.tail, one.ring))
            self.assertFalse(one == None)

    def test_what_is_handed_in_is_free_of_the_object(self):
        late, rings = [0, 1], [[1, 2]]
        told = Turning(1, 2, late, rings)
        late.append(1)
        rings[0].append(3)
        rings.append([])
        self.assertEqual((told.late, told.rings), ((0, 1), [(1, 2)]))


class TurningRefusalsTest(Refusing):
    def test_more_than_two_thousand_whole_starts(self):
        for sizes, many in (((2000,), 2001), ((1, 1000), 2002), ((2, 666), 2001), ((9, 9, 9, 1, 1), 4000)):
            self.refused(Wide, {"count": many}, turning, Row(Jars(sizes), [Put(0, 1)]))
        self.refused(Wide, {"count": (MOST + 1) ** 6}, turning, Row(Jars([MOST] * 6), []))


if __name__ == "__main__":
    unittest.main()
