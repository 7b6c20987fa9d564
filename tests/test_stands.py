"""Points 2, 5 and 6, and the interface of wholedrops/stands.py."""

import inspect
import unittest
from fractions import Fraction
from itertools import product

from houses import all_deeds, all_starts

from wholedrops import stands as module
from wholedrops.errors import BadCount, BadStart, DropsError
from wholedrops.jars import Change, Draw, Jars, Pour, Put, Row
from wholedrops.stands import behind

MOST = 10 ** 12


def poured(sizes, deed, amounts):
    """What the document says of one deed, over fractions of one, a little at a time."""
    now = list(amounts)
    step = Fraction(1, 6)
    if isinstance(deed, Pour):
        while now[deed.a] > 0 and now[deed.b] < sizes[deed.b]:
            now[deed.a] -= step
            now[deed.b] += step
    elif isinstance(deed, Put):
        for _ in range(6 * deed.k):
            if now[deed.a] < sizes[deed.a]:
                now[deed.a] += step
    elif isinstance(deed, Draw):
        for _ in range(6 * deed.k):
            if now[deed.a] > 0:
                now[deed.a] -= step
    else:
        now[deed.a], now[deed.b] = now[deed.b], now[deed.a]
    return now


class InterfaceTest(unittest.TestCase):
    def test_behind_is_defined_in_this_file(self):
        self.assertTrue(inspect.isfunction(module.behind))
        self.assertEqual(module.behind.__module__, "wholedrops.stands")

    def test_arguments(self):
        row = Row(Jars([8, 5]), [Pour(0, 1)])
        self.assertEqual(behind(row, [8, 0]), [3, 5])
        self.assertEqual(behind(row=row, start=[8, 0]), [3, 5])
        self.assertEqual(behind(times=1, parts=2, start=[16, 0], row=row), [6, 10])
        with self.assertRaises(TypeError):
            behind(row, [8, 0], 1)


class DeedsTest(unittest.TestCase):
    def told(self, sizes, deed, start, after, **named):
        row = Row(Jars(sizes), [deed])
        self.assertEqual(behind(row, start, **named), after)

    def test_pour_empties_or_fills(self):
        self.told([8, 5], Pour(0, 1), [3, 1], [0, 4])
        self.told([8, 5], Pour(0, 1), [8, 1], [4, 5])
        self.told([8, 5], Pour(0, 1), [4, 1], [0, 5])
        self.told([8, 5], Pour(0, 1), [0, 1], [0, 1])
        self.told([8, 5], Pour(0, 1), [7, 5], [7, 5])
        self.told([8, 5], Pour(1, 0), [7, 5], [8, 4])
        self.told([8, 5, 3], Pour(2, 0), [1, 2, 3], [4, 2, 0])

    def test_put_as_much_as_has_room(self):
        self.told([8, 5], Put(0, 3), [4, 1], [7, 1])
        self.told([8, 5], Put(0, 3), [5, 1], [8, 1])
        self.told([8, 5], Put(0, 3), [6, 1], [8, 1])
        self.told([8, 5], Put(1, MOST), [8, 0], [8, 5])
        self.told([8, 5], Put(1, 1), [8, 5], [8, 5])

    def test_draw_all_there_is(self):
        self.told([8, 5], Draw(0, 3), [4, 1], [1, 1])
        self.told([8, 5], Draw(0, 3), [3, 1], [0, 1])
        self.told([8, 5], Draw(0, 3), [2, 1], [0, 1])
        self.told([8, 5], Draw(1, MOST), [8, 5], [8, 0])
        self.told([8, 5], Draw(1, 1), [8, 0], [8, 0])

    def test_change_exchanges(self):
        self.told([8, 5, 8], Change(0, 2), [7, 1, 2], [2, 1, 7])
        self.told([8, 5, 8], Change(2, 0), [7, 1, 2], [2, 1, 7])

    def test_parts(self):
        self.told([2, 1], Pour(0, 1), [5, 0], [2, 3], parts=3)
        self.told([2, 1], Pour(0, 1), [1, 1], [0, 2], parts=3)
        self.told([2, 1], Put(0, 1), [1, 0], [4, 0], parts=3)
        self.told([2, 1], Put(0, 1), [4, 0], [6, 0], parts=3)
        self.told([2, 1], Draw(0, 1), [5, 0], [2, 0], parts=3)
        self.told([2, 1], Draw(0, 1), [2, 0], [0, 0], parts=3)
        self.told([2, 2], Change(0, 1), [5, 1], [1, 5], parts=3)

    def test_big_numbers(self):
        self.told([MOST, MOST], Pour(0, 1), [MOST, MOST - 1], [MOST - 1, MOST])
        self.told([MOST], Put(0, MOST), [0], [MOST])
        self.told([MOST], Draw(0, MOST), [MOST * MOST], [0], parts=MOST)

    def test_as_told_a_little_at_a_time(self):
        sizes = (2, 2, 1)
        for deed in all_deeds(sizes, 3):
            row = Row(Jars(sizes), [deed])
            for parts in (1, 2, 3):
                for start in all_starts(sizes, parts):
                    told = [Fraction(number, parts) for number in behind(row, start, parts=parts)]
                    amounts = [Fraction(number, parts) for number in start]
                    self.assertEqual(told, poured(sizes, deed, amounts))


class RowsTest(unittest.TestCase):
    def setUp(self):
        deeds = [Pour(0, 1), Pour(1, 2), Pour(2, 0), Pour(1, 2), Pour(0, 1), Pour(1, 2), Pour(2, 0)]
        self.row = Row(Jars([8, 5, 3]), deeds)

    def test_deeds_one_behind_the_other(self):
        self.assertEqual(behind(self.row, [8, 0, 0]), [4, 4, 0])
        row = Row(Jars([3, 2]), [Put(0, 2), Draw(0, 1), Pour(0, 1), Put(0, 3)])
        self.assertEqual(behind(row, [2, 1]), [3, 2])
        self.assertEqual(behind(row, [0, 0]), [3, 1])

    def test_no_deeds(self):
        row = Row(Jars([8, 5]), [])
        for times in (0, 1, 1000):
            self.assertEqual(behind(row, [3, 5], times=times), [3, 5])

    def test_twenty_deeds(self):
        row = Row(Jars([30, 30]), [Put(0, 1)] * 10 + [Pour(0, 1)] + [Put(0, 1)] * 9)
        self.assertEqual(behind(row, [0, 0]), [9, 10])

    def test_times(self):
        start = (8, 0, 0)
        for times in range(12):
            once_more = behind(self.row, behind(self.row, start, times=times))
            self.assertEqual(behind(self.row, start, times=times + 1), once_more)
        row = Row(Jars([MOST]), [Put(0, 3), Draw(0, 2)])
        self.assertEqual(behind(row, [5], times=0), [5])
        self.assertEqual(behind(row, [5], times=1), [6])
        self.assertEqual(behind(row, [5], times=2), [7])
        self.assertEqual(behind(row, [5], times=999), [1004])
        self.assertEqual(behind(row, [5], times=1000), [1005])
        self.assertEqual(behind(row, [1], times=1000, parts=7), [7001])

    def test_one_time_is_the_default_in_whole_numbers(self):
        self.assertEqual(behind(self.row, [8, 0, 0]), behind(self.row, [8, 0, 0], parts=1, times=1))

    def test_whole_starts_come_to_the_same_in_all_parts(self):
        for start in all_starts((8, 5, 3), 1):
            whole = behind(self.row, start)
            for parts in (2, 5):
                many = [number * parts for number in start]
                self.assertEqual(behind(self.row, many, parts=parts), [number * parts for number in whole])


class PromisedOfAllStartsTest(unittest.TestCase):
    def setUp(self):
        self.sizes = (2, 1, 2)
        deeds = all_deeds(self.sizes, 2)
        self.rows = [Row(Jars(self.sizes), pair) for pair in product(deeds, deeds)]
        self.starts = all_starts(self.sizes, 1)

    def test_nowhere_more_stays_nowhere_more(self):
        for row in self.rows:
            after = [behind(row, start) for start in self.starts]
            for i, low in enumerate(self.starts):
                for j, high in enumerate(self.starts):
                    if all(x <= y for x, y in zip(low, high)):
                        self.assertTrue(all(x <= y for x, y in zip(after[i], after[j])))

    def test_differences_grow_never(self):
        for row in self.rows:
            after = [behind(row, start) for start in self.starts]
            for i, one in enumerate(self.starts):
                for j, other in enumerate(self.starts):
                    ahead = sum(abs(x - y) for x, y in zip(one, other))
                    self.assertLessEqual(sum(abs(x - y) for x, y in zip(after[i], after[j])), ahead)


class NewListsTest(unittest.TestCase):
    def test_a_list_or_a_tuple_will_do_and_a_list_is_told(self):
        row = Row(Jars([8, 5]), [Pour(0, 1)])
        for start in ([8, 0], (8, 0)):
            told = behind(row, start)
            self.assertIs(told.__class__, list)
            self.assertEqual(told, [3, 5])

    def test_the_start_is_not_changed(self):
        row = Row(Jars([8, 5]), [Pour(0, 1), Put(0, 1)])
        start = [8, 0]
        behind(row, start, times=3)
        self.assertEqual(start, [8, 0])
        self.assertEqual(row, Row(Jars([8, 5]), [Pour(0, 1), Put(0, 1)]))

    def test_each_list_is_new(self):
        for deeds in ([], [Put(0, 1)]):
            row = Row(Jars([8, 5]), deeds)
            for times in (0, 1, 2):
                start = [0, 5]
                told = behind(row, start, times=times)
                again = behind(row, start, times=times)
                self.assertEqual(told, again)
                self.assertIsNot(told, start)
                self.assertIsNot(told, again)
                told[0] = 99
                self.assertEqual(start, [0, 5])
                self.assertEqual(behind(row, start, times=times), again)


class RefusalsTest(unittest.TestCase):
    def setUp(self):
        self.row = Row(Jars([8, 5]), [Pour(0, 1)])

    def refused(self, refusal, fields, start, **named):
        handed = list(start)
        with self.assertRaises(DropsError) as caught:
            behind(self.row, handed, **named)
        self.assertIs(caught.exception.__class__, refusal)
        self.assertEqual(vars(caught.exception), fields)
        self.assertEqual(handed, list(start))
        self.assertEqual(self.row, Row(Jars([8, 5]), [Pour(0, 1)]))

    def test_parts_from_one_on(self):
        self.assertEqual(behind(self.row, [8, 0], parts=1), [3, 5])
        self.assertEqual(behind(self.row, [8 * MOST, 0], parts=MOST), [3 * MOST, 5 * MOST])
        for parts in (0, -1, -MOST):
            self.refused(BadCount, {"what": "parts", "count": parts}, [0, 0], parts=parts)

    def test_one_number_for_each_jar(self):
        self.refused(BadCount, {"what": "start", "count": 0}, [])
        self.refused(BadCount, {"what": "start", "count": 1}, [8])
        self.refused(BadCount, {"what": "start", "count": 3}, [8, 0, 0])

    def test_empty_and_full_starts(self):
        self.assertEqual(behind(self.row, [0, 0]), [0, 0])
        self.assertEqual(behind(self.row, [8, 5]), [8, 5])
        self.assertEqual(behind(self.row, [24, 15], parts=3), [24, 15])

    def test_below_nought_or_more_than_the_size(self):
        self.refused(BadStart, {"jar": 0}, [-1, 0])
        self.refused(BadStart, {"jar": 1}, [0, -1])
        self.refused(BadStart, {"jar": 0}, [9, 0])
        self.refused(BadStart, {"jar": 1}, [0, 6])
        self.refused(BadStart, {"jar": 1}, [8, 6])
        self.refused(BadStart, {"jar": 0}, [25, 0], parts=3)
        self.refused(BadStart, {"jar": 1}, [24, 16], parts=3)
        self.refused(BadStart, {"jar": 1}, [24, -1], parts=3)

    def test_the_first_jar_amiss_is_told(self):
        self.refused(BadStart, {"jar": 0}, [-1, 6])
        self.refused(BadStart, {"jar": 0}, [9, -1])

    def test_times_from_nought_to_a_thousand(self):
        self.assertEqual(behind(self.row, [8, 0], times=0), [8, 0])
        self.assertEqual(behind(self.row, [8, 0], times=1000), [3, 5])
        for times in (-1, 1001, MOST, -MOST):
            self.refused(BadCount, {"what": "times", "count": times}, [8, 0], times=times)

    def test_the_order_of_the_refusals(self):
        self.refused(BadCount, {"what": "parts", "count": 0}, [9], parts=0, times=-1)
        self.refused(BadCount, {"what": "parts", "count": 0}, [9, 0], parts=0)
        self.refused(BadCount, {"what": "start", "count": 1}, [9], times=-1)
        self.refused(BadCount, {"what": "start", "count": 3}, [9, -1, 0], parts=2)
        self.refused(BadStart, {"jar": 1}, [8, 6], times=1001)

    def test_a_start_is_looked_at_where_nothing_is_done(self):
        self.refused(BadStart, {"jar": 0}, [9, 0], times=0)
        with self.assertRaises(BadStart):
            behind(Row(Jars([1]), []), [2])


if __name__ == "__main__":
    unittest.main()
