"""Points 2, 3 and 4, and the interface of wholedrops/jars.py."""

import inspect
import unittest
from unittest import mock

from houses import MOST, Refusing

from wholedrops import jars as module
from wholedrops.errors import BadCount, NoJar, SameJar, Sizes
from wholedrops.jars import Change, Deed, Draw, Jars, Pour, Put, Row


class InterfaceTest(unittest.TestCase):
    def test_all_is_defined_in_this_file(self):
        for name in ("Jars", "Deed", "Pour", "Put", "Draw", "Change", "Row"):
            with self.subTest(name):
                self.assertTrue(inspect.isclass(getattr(module, name)))
                self.assertEqual(getattr(module, name).__module__, "wholedrops.jars")

    def test_arguments_by_name(self):
        jars = Jars(sizes=[3, 5])
        self.assertEqual(jars, Jars([3, 5]))
        self.assertEqual(Pour(b=1, a=0), Pour(0, 1))
        self.assertEqual(Put(k=1, a=0), Put(0, 1))
        self.assertEqual(Draw(k=1, a=0), Draw(0, 1))
        self.assertEqual(Change(b=1, a=0), Change(0, 1))
        self.assertEqual(Row(deeds=[Pour(0, 1)], jars=jars), Row(jars, [Pour(0, 1)]))


class JarsTest(Refusing):
    def test_sizes_is_a_tuple(self):
        for sizes in ([8, 5, 3], (8, 5, 3)):
            jars = Jars(sizes)
            self.assertIs(jars.sizes.__class__, tuple)
            self.assertEqual(jars.sizes, (8, 5, 3))

    def test_from_one_to_six_jars(self):
        for many in (1, 2, 3, 4, 5, 6):
            self.assertEqual(Jars([9] * many).sizes, (9,) * many)
        self.refused(BadCount, {"what": "jars", "count": 0}, Jars, [])
        self.refused(BadCount, {"what": "jars", "count": 0}, Jars, ())
        self.refused(BadCount, {"what": "jars", "count": 7}, Jars, [9] * 7)
        self.refused(BadCount, {"what": "jars", "count": 100}, Jars, (9,) * 100)

    def test_sizes_from_one_to_the_most(self):
        self.assertEqual(Jars([1]).sizes, (1,))
        self.assertEqual(Jars([MOST]).sizes, (MOST,))
        for size in (0, -1, MOST + 1, -MOST):
            self.refused(BadCount, {"what": "size", "count": size}, Jars, [size])

    def test_the_first_bad_size_is_told(self):
        self.refused(BadCount, {"what": "size", "count": -4}, Jars, [3, -4, 0])
        self.refused(BadCount, {"what": "size", "count": MOST + 1}, Jars, (3, MOST + 1, 0))
        self.refused(BadCount, {"what": "size", "count": 0}, Jars, [1, 2, 3, 4, 5, 0])

    def test_how_many_comes_ahead_of_the_sizes(self):
        self.refused(BadCount, {"what": "jars", "count": 7}, Jars, [0] * 7)

    def test_what_was_handed_in_is_free_of_the_jars(self):
        sizes = [3, 5]
        jars = Jars(sizes)
        self.assertEqual(sizes, [3, 5])
        sizes[0] = 4
        sizes.append(0)
        self.assertEqual(jars.sizes, (3, 5))

    def test_equal_by_the_sizes(self):
        self.assertTrue(Jars([3, 5]) == Jars((3, 5)))
        self.assertFalse(Jars([3, 5]) != Jars((3, 5)))
        self.assertFalse(Jars([3, 5]) == Jars([5, 3]))
        self.assertTrue(Jars([3, 5]) != Jars([3, 6]))
        self.assertFalse(Jars([3]) == Jars([3, 3]))

    def test_equal_to_no_other_kind(self):
        for other in ((3, 5), [3, 5], 3, "3", None, Row(Jars([3, 5]), []), mock.ANY):
            self.assertFalse(Jars([3, 5]) == other)
            self.assertTrue(Jars([3, 5]) != other)


class DeedsTest(unittest.TestCase):
    def test_fields(self):
        for made in (Pour, Change):
            deed = made(2, 4)
            self.assertEqual((deed.a, deed.b), (2, 4))
        for made in (Put, Draw):
            deed = made(2, 4)
            self.assertEqual((deed.a, deed.k), (2, 4))

    def test_all_under_deed(self):
        for made in (Pour, Put, Draw, Change):
            self.assertTrue(issubclass(made, Deed))
            self.assertIsInstance(made(0, 1), Deed)
        for made in (Pour, Put, Draw, Change):
            for other in (Pour, Put, Draw, Change):
                self.assertEqual(issubclass(made, other), made is other)

    def test_equal_by_class_and_fields(self):
        made = (Pour, Put, Draw, Change)
        fields = ((0, 1), (1, 0), (0, 0), (1, 1), (0, 2))
        for one in made:
            for mine in fields:
                for other in made:
                    for yours in fields:
                        same = one is other and mine == yours
                        self.assertIs(one(*mine) == other(*yours), same)
                        self.assertIs(one(*mine) != other(*yours), not same)

    def test_equal_to_no_other_kind(self):
        for deed in (Pour(0, 1), Put(0, 1), Draw(0, 1), Change(0, 1)):
            for other in ((0, 1), [0, 1], 0, "pour 0 1", None, Deed(), Jars([1]), mock.ANY):
                self.assertFalse(deed == other)
                self.assertTrue(deed != other)

    def test_a_deed_by_itself_is_refused_nothing(self):
        for made in (Pour, Change):
            deed = made(-3, -3)
            self.assertEqual((deed.a, deed.b), (-3, -3))
            self.assertEqual(made(7, MOST * MOST).b, MOST * MOST)
        for made in (Put, Draw):
            deed = made(-3, -3)
            self.assertEqual((deed.a, deed.k), (-3, -3))
            self.assertEqual(made(99, MOST + 1).k, MOST + 1)


class RowTest(Refusing):
    def setUp(self):
        self.jars = Jars([8, 5, 5])

    def test_fields(self):
        for deeds in ([Pour(0, 1), Put(2, 3)], (Pour(0, 1), Put(2, 3))):
            row = Row(self.jars, deeds)
            self.assertEqual(row.jars, self.jars)
            self.assertIs(row.deeds.__class__, tuple)
            self.assertEqual(row.deeds, (Pour(0, 1), Put(2, 3)))

    def test_up_to_twenty_deeds_perhaps_none(self):
        self.assertEqual(Row(self.jars, []).deeds, ())
        self.assertEqual(Row(self.jars, ()).deeds, ())
        self.assertEqual(len(Row(self.jars, [Put(0, 1)] * 20).deeds), 20)
        self.refused(BadCount, {"what": "deeds", "count": 21}, Row, self.jars, [Put(0, 1)] * 21)
        self.refused(BadCount, {"what": "deeds", "count": 50}, Row, self.jars, (Put(0, 1),) * 50)

    def test_how_many_comes_ahead_of_the_deeds(self):
        self.refused(BadCount, {"what": "deeds", "count": 21}, Row, self.jars, [Pour(9, 9)] * 21)

    def test_no_jar_of_a(self):
        for jar in (3, 4, -1, -3, MOST):
            for deed in (Pour(jar, 0), Change(jar, 0), Put(jar, 1), Draw(jar, 1)):
                self.refused(NoJar, {"jar": jar}, Row, self.jars, [deed])

    def test_no_jar_of_b(self):
        for jar in (3, 4, -1, -3, MOST):
            for deed in (Pour(0, jar), Change(0, jar)):
                self.refused(NoJar, {"jar": jar}, Row, self.jars, [deed])

    def test_the_last_jar_is_one(self):
        for deeds in ([Pour(2, 0)], [Pour(0, 2)], [Put(2, 1)], [Draw(2, 1)], [Change(2, 1)], [Change(1, 2)]):
            self.assertEqual(Row(self.jars, deeds).deeds, tuple(deeds))
        self.refused(NoJar, {"jar": 1}, Row, Jars([8]), [Put(1, 1)])

    def test_no_jar_of_a_comes_ahead_of_b(self):
        for made in (Pour, Change):
            self.refused(NoJar, {"jar": 9}, Row, self.jars, [made(9, -1)])
            self.refused(NoJar, {"jar": -1}, Row, self.jars, [made(-1, 9)])

    def test_same_jar(self):
        for jar in (0, 1, 2):
            for made in (Pour, Change):
                self.refused(SameJar, {"jar": jar}, Row, self.jars, [made(jar, jar)])

    def test_no_jar_comes_ahead_of_same_jar(self):
        for made in (Pour, Change):
            self.refused(NoJar, {"jar": 3}, Row, self.jars, [made(3, 3)])

    def test_much(self):
        for made in (Put, Draw):
            for much in (1, 9, MOST):
                self.assertEqual(Row(self.jars, [made(0, much)]).deeds, (made(0, much),))
            for much in (0, -1, MOST + 1, -MOST):
                self.refused(BadCount, {"what": "much", "count": much}, Row, self.jars, [made(0, much)])

    def test_no_jar_comes_ahead_of_much(self):
        for made in (Put, Draw):
            self.refused(NoJar, {"jar": 3}, Row, self.jars, [made(3, 0)])

    def test_sizes(self):
        self.refused(Sizes, {"a": 0, "b": 1}, Row, self.jars, [Change(0, 1)])
        self.refused(Sizes, {"a": 2, "b": 0}, Row, self.jars, [Change(2, 0)])
        self.assertEqual(Row(self.jars, [Change(1, 2)]).deeds, (Change(1, 2),))
        self.assertEqual(Row(self.jars, [Pour(0, 1)]).deeds, (Pour(0, 1),))

    def test_the_first_deed_amiss_is_told(self):
        fine = [Pour(0, 1), Put(0, 1), Draw(1, MOST), Change(1, 2)]
        self.refused(BadCount, {"what": "much", "count": 0}, Row, self.jars, fine + [Put(0, 0), Pour(9, 9)])
        self.refused(Sizes, {"a": 0, "b": 2}, Row, self.jars, fine + [Change(0, 2), Put(9, 0)])
        self.refused(SameJar, {"jar": 1}, Row, self.jars, fine + [Pour(1, 1), Pour(9, 0)])
        self.refused(NoJar, {"jar": 4}, Row, self.jars, tuple(fine) + (Pour(0, 4), Pour(1, 1)))
        self.refused(BadCount, {"what": "much", "count": -1}, Row, self.jars, [Put(0, 1)] * 19 + [Draw(0, -1)])

    def test_what_was_handed_in_is_free_of_the_row(self):
        deeds = [Pour(0, 1)]
        row = Row(self.jars, deeds)
        self.assertEqual(deeds, [Pour(0, 1)])
        deeds[0] = Pour(9, 9)
        deeds.append(Put(0, 1))
        self.assertEqual(row.deeds, (Pour(0, 1),))

    def test_a_refusal_leaves_what_was_handed_in(self):
        deeds = [Pour(0, 1), Pour(1, 1)]
        self.refused(SameJar, {"jar": 1}, Row, self.jars, deeds)
        self.assertEqual(deeds, [Pour(0, 1), Pour(1, 1)])
        self.assertEqual(self.jars, Jars([8, 5, 5]))

    def test_equal_where_both_are(self):
        row = Row(self.jars, [Pour(0, 1), Put(2, 3)])
        self.assertTrue(row == Row(Jars((8, 5, 5)), (Pour(0, 1), Put(2, 3))))
        self.assertFalse(row != Row(Jars((8, 5, 5)), (Pour(0, 1), Put(2, 3))))
        self.assertFalse(row == Row(Jars([8, 5, 6]), [Pour(0, 1), Put(2, 3)]))
        self.assertFalse(row == Row(self.jars, [Put(2, 3), Pour(0, 1)]))
        self.assertFalse(row == Row(self.jars, [Pour(0, 1)]))
        self.assertTrue(row != Row(self.jars, [Pour(0, 1), Draw(2, 3)]))
        self.assertTrue(Row(self.jars, []) == Row(Jars([8, 5, 5]), ()))

    def test_equal_to_no_other_kind(self):
        row = Row(self.jars, [Pour(0, 1)])
        for other in (self.jars, Pour(0, 1), (Pour(0, 1),), [Pour(0, 1)], None, "pour 0 1", mock.ANY):
            self.assertFalse(row == other)
            self.assertTrue(row != other)


if __name__ == "__main__":
    unittest.main()
