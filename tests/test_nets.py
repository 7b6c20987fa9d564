"""Points 2, 9 and 11, and the interface of wholedrops/nets.py."""

import inspect
import random
import unittest
from itertools import combinations, product

from houses import all_starts, box_of, keeps, keeps_apart

from wholedrops import nets as module
from wholedrops.bounds import Least, Most, load, worth
from wholedrops.errors import BadCount, DropsError
from wholedrops.jars import Jars
from wholedrops.nets import has_room, has_start

MOST = 10 ** 12


def is_nested(groups):
    for one, other in combinations([set(group) for group in groups], 2):
        if one & other and not one <= other and not other <= one:
            return False
    return True


def of_two_families(groups):
    """Whether some parting of the groups into two makes both nested."""
    for sides in product((0, 1), repeat=len(groups)):
        if all(is_nested([group for group, at in zip(groups, sides) if at == side]) for side in (0, 1)):
            return True
    return False


def drawn_family(drawn, jars):
    """A nested family of groups of the jars, drawn."""
    found = [tuple(sorted(jars))]
    if len(jars) > 1:
        jars = list(jars)
        drawn.shuffle(jars)
        cut = drawn.randint(1, len(jars) - 1)
        for part in (jars[:cut], jars[cut:]):
            if drawn.random() < 0.8:
                found += drawn_family(drawn, part)
    return found


def drawn_bounds(drawn, sizes, many):
    """Bounds of two nested families, about as much as a drawn start just keeps."""
    jars = list(range(len(sizes)))
    groups = drawn_family(drawn, jars) + drawn_family(drawn, jars) + [()]
    start = [drawn.randint(0, size) for size in sizes]
    found = []
    for _ in range(many):
        group = drawn.choice(groups)
        held = sum(start[jar] for jar in group)
        kind = drawn.choice((Most, Least))
        slip = drawn.choice((0, 0, 1, 2, -1)) * drawn.choice((1, 1, max(sizes) // 3 + 1))
        found.append(kind(group, held + slip if kind is Most else held - slip))
    return found


class Nets(unittest.TestCase):
    def shown(self, jars, bounds, lot, least):
        """The lot is a list of these bounds and the box's, has no load, and is worth no less."""
        self.assertIs(lot.__class__, list)
        self.assertTrue(lot)
        for bound in lot:
            self.assertIn(bound, list(bounds) + box_of(jars))
        self.assertEqual([load(lot, jar) for jar in range(len(jars.sizes))], [0] * len(jars.sizes))
        self.assertGreaterEqual(worth(lot), least)

    def room(self, jars, bounds):
        """Whether there is room, by what has_room tells; a lot is looked at."""
        told = has_room(jars, bounds)
        if told is True:
            return True
        self.shown(jars, bounds, told, 0)
        return False

    def start(self, jars, bounds):
        """Whether there is a start, by what has_start tells; it or the lot is looked at."""
        told = has_start(jars, bounds)
        if told.__class__ is not tuple:
            self.shown(jars, bounds, told, 1)
            return False
        self.assertEqual([number.__class__ for number in told], [int] * len(jars.sizes))
        self.assertTrue(keeps(list(bounds) + box_of(jars), told))
        return True


class InterfaceTest(unittest.TestCase):
    def test_both_are_defined_in_this_file(self):
        for name in ("has_room", "has_start"):
            self.assertTrue(inspect.isfunction(getattr(module, name)))
            self.assertEqual(getattr(module, name).__module__, "wholedrops.nets")

    def test_arguments(self):
        jars = Jars([3])
        self.assertIs(has_room(bounds=[], jars=jars), True)
        self.assertEqual(has_start(bounds=[Least((0,), 3)], jars=jars), (3,))


class EdgesTest(Nets):
    def setUp(self):
        self.jars = Jars([8, 5, 3])

    def told(self, bounds, room, start):
        self.assertEqual(self.room(self.jars, bounds), room)
        self.assertEqual(self.start(self.jars, bounds), start)
        self.assertEqual(self.room(self.jars, tuple(bounds)), room)
        self.assertEqual(self.start(self.jars, tuple(bounds)), start)
        with_box = box_of(self.jars)[:3] + bounds + box_of(self.jars)[1:]
        self.assertEqual(self.room(self.jars, with_box), room)
        self.assertEqual(self.start(self.jars, with_box), start)

    def test_no_bounds_and_the_box(self):
        self.told([], True, True)
        self.told(box_of(self.jars), True, True)
        for size in (1, MOST):
            self.assertIs(has_room(Jars([size] * 6), ()), True)
            self.assertTrue(self.start(Jars([size] * 6), ()))

    def test_bounds_that_are_just_met(self):
        self.told([Least((0,), 3), Most((0,), 3)], False, True)
        self.told([Least((0,), 3), Most((0,), 4)], True, True)
        self.told([Least((0,), 4), Most((0,), 3)], False, False)
        self.told([Least((0, 1), 7), Most((0,), 4), Most((1,), 3)], False, True)
        self.told([Least((0, 1), 7), Most((0,), 4), Most((1,), 4)], True, True)
        self.told([Least((0, 1), 8), Most((0,), 4), Most((1,), 3)], False, False)

    def test_at_the_box(self):
        self.told([Least((0,), 7)], True, True)
        self.told([Least((0,), 8)], False, True)
        self.told([Least((0,), 9)], False, False)
        self.told([Most((0,), 1)], True, True)
        self.told([Most((0,), 0)], False, True)
        self.told([Most((0,), -1)], False, False)
        self.told([Least((0, 1, 2), 15)], True, True)
        self.told([Least((0, 1, 2), 16)], False, True)
        self.told([Least((0, 1, 2), 17)], False, False)
        self.told([Most((0, 1, 2), 0)], False, True)
        self.told([Most((0, 1, 2), -1)], False, False)

    def test_groups_of_no_jar(self):
        self.told([Most((), 1)], True, True)
        self.told([Most((), 0)], False, True)
        self.told([Most((), -1)], False, False)
        self.told([Least((), -1)], True, True)
        self.told([Least((), 0)], False, True)
        self.told([Least((), 1)], False, False)
        self.told([Most((), MOST), Least((), -MOST), Least((1,), 1)], True, True)

    def test_numbers_below_nought_and_above_all(self):
        self.told([Least((0, 1), -5), Least((2,), -MOST), Most((0, 2), 9 * MOST)], True, True)
        self.told([Most((0, 2), -MOST)], False, False)
        self.told([Least((0, 2), 9 * MOST)], False, False)

    def test_two_families(self):
        self.told([Most((0, 1), 5), Least((1, 2), 5), Least((0, 1), 5)], False, True)
        self.told([Most((0, 1), 1), Least((1, 2), 4)], False, True)
        self.told([Most((0, 1), 2), Least((1, 2), 4)], True, True)
        self.told([Most((0, 1), 0), Least((1, 2), 4)], False, False)

    def test_room_between_whole_starts(self):
        self.assertTrue(self.room(Jars([1]), [Least((0,), 0), Most((0,), 1)]))
        bounds = [Least((0, 1, 2, 3, 4, 5), 0), Most((0, 1, 2, 3, 4, 5), 1)]
        self.assertTrue(self.room(Jars([1] * 6), bounds))
        bounds = [Least((0, 1, 2, 3, 4, 5), 5), Most((0, 1, 2, 3, 4, 5), 6)]
        self.assertTrue(self.room(Jars([1] * 6), bounds))
        # Six jars each less than one, and together more than five: each is more than nought.
        self.assertTrue(self.room(Jars([1] * 6), bounds + [Least((jar,), 0) for jar in range(6)]))
        self.assertFalse(self.room(Jars([1] * 6), bounds + [Most((0, 1, 2), 2)]))
        self.assertFalse(self.room(Jars([1] * 6), bounds + [Most((0, 1), 1)]))

    def test_the_same_bound_often(self):
        self.told([Least((0, 1), 3)] * 50 + [Most((1, 2), 4)] * 50, True, True)
        self.told([Least((0, 1), 13)] * 50 + [Most((1, 2), 4)] * 50, False, False)


class NewThingsTest(Nets):
    def test_what_is_handed_in_is_not_changed(self):
        jars = Jars([8, 5, 3])
        for number in (3, 9):
            bounds = [Least((0, 1), 14 - number), Most((1, 2), number), Least((0,), number)]
            same = [Least((0, 1), 14 - number), Most((1, 2), number), Least((0,), number)]
            has_room(jars, bounds)
            has_start(jars, bounds)
            self.assertEqual(bounds, same)
            self.assertEqual(jars, Jars([8, 5, 3]))

    def test_the_same_at_each_asking_and_new_lists(self):
        jars = Jars([8, 5, 3])
        bounds = [Least((0,), 9)]
        for asked in (has_room, has_start):
            told = asked(jars, bounds)
            self.assertEqual(told, asked(jars, tuple(bounds)))
            self.assertIsNot(told, bounds)
            told.clear()
            self.assertTrue(asked(jars, bounds))
        bounds = [Least((0,), 4), Most((0, 1), 5)]
        self.assertEqual(has_start(jars, bounds), has_start(jars, bounds))


class SmallHousesTest(Nets):
    def looked_at(self, jars, bounds, inner, whole):
        """What is told, against all starts: these parts are fine enough for one inside wherever there is room."""
        parts = len(jars.sizes) + 2
        self.assertEqual(self.room(jars, bounds), any(keeps_apart(bounds, start, parts) for start in inner))
        self.assertEqual(self.start(jars, bounds), any(keeps(bounds, start) for start in whole))

    def test_all_pairs_and_drawn_ones(self):
        jars = Jars([1, 2])
        box = box_of(jars)
        inner = [start for start in all_starts(jars.sizes, 4) if keeps_apart(box, start, 4)]
        whole = all_starts(jars.sizes, 1)
        groups = ((), (0,), (1,), (0, 1))
        bounds = [kind(group, number) for kind in (Most, Least) for group in groups for number in range(-1, 5)]
        for pair in combinations(bounds, 2):
            self.looked_at(jars, list(pair), inner, whole)
        drawn = random.Random(3)
        for _ in range(1500):
            self.looked_at(jars, [drawn.choice(bounds) for _ in range(drawn.randint(3, 6))], inner, whole)

    def test_three_jars(self):
        drawn = random.Random(5)
        for sizes in ((1, 1, 1), (2, 1, 2), (1, 2, 3)):
            jars = Jars(sizes)
            box = box_of(jars)
            inner = [start for start in all_starts(sizes, 5) if keeps_apart(box, start, 5)]
            whole = all_starts(sizes, 1)
            for _ in range(400):
                self.looked_at(jars, drawn_bounds(drawn, sizes, drawn.randint(1, 7)), inner, whole)

    def test_four_jars(self):
        drawn = random.Random(6)
        sizes = (1, 2, 1, 1)
        jars = Jars(sizes)
        inner = [start for start in all_starts(sizes, 6) if keeps_apart(box_of(jars), start, 6)]
        whole = all_starts(sizes, 1)
        for _ in range(150):
            self.looked_at(jars, drawn_bounds(drawn, sizes, drawn.randint(3, 9)), inner, whole)


class BigHousesTest(Nets):
    def looked_at(self, sizes, bounds):
        """Both lots and starts show themselves; room shows itself by a whole start of jars eight times as large."""
        jars = Jars(sizes)
        start = self.start(jars, bounds)
        room = self.room(jars, bounds)
        if room:
            self.assertTrue(start)
            finer = [Most(bound.group, 8 * bound.number - 1) if isinstance(bound, Most)
                     else Least(bound.group, 8 * bound.number + 1) for bound in list(bounds) + box_of(jars)]
            inside = has_start(Jars([8 * size for size in sizes]), finer)
            self.assertIs(inside.__class__, tuple)
            self.assertTrue(keeps_apart(list(bounds) + box_of(jars), inside, 8))
        return room, start

    def test_drawn(self):
        drawn = random.Random(7)
        seen = {}
        for most in (1, 3, 1000, MOST // 8):
            for _ in range(400):
                sizes = [drawn.randint(1, most) for _ in range(drawn.randint(1, 6))]
                told = self.looked_at(sizes, drawn_bounds(drawn, sizes, drawn.randint(1, 24)))
                seen[told] = seen.get(told, 0) + 1
        for told in ((True, True), (False, True), (False, False)):
            self.assertGreater(seen[told], 50, seen)

    def test_sizes_up_to_the_most(self):
        jars = Jars([MOST] * 6)
        every = (0, 1, 2, 3, 4, 5)
        self.assertTrue(self.start(jars, [Least(every, 6 * MOST)]))
        self.assertFalse(self.room(jars, [Least(every, 6 * MOST)]))
        self.assertTrue(self.room(jars, [Least(every, 6 * MOST - 1)]))
        self.assertFalse(self.start(jars, [Least(every, 6 * MOST + 1)]))
        tight = [Least((0, 1, 2), MOST), Most((0, 1), 5), Most((2, 3), MOST - 5)]
        self.assertTrue(self.start(jars, tight))
        self.assertFalse(self.room(jars, tight))
        self.assertFalse(self.start(jars, tight + [Least((3,), 1)]))
        self.assertTrue(self.room(jars, [Least((0, 1, 2), MOST), Most((0, 1), 6), Most((2, 3), MOST - 5)]))

    def test_many_bounds(self):
        jars = Jars([MOST] * 6)
        bounds = [Least((0, 1), number) for number in range(5000)] + [Least((0,), number) for number in range(5000)]
        bounds += [Most((1, 2), MOST - number) for number in range(5000)]
        bounds += [Most((0, 1), 3 * MOST - number) for number in range(5000)]
        self.assertTrue(self.start(jars, bounds))
        self.assertTrue(self.room(jars, bounds))
        self.assertTrue(self.start(jars, bounds + [Most((0,), 4999)]))
        self.assertFalse(self.room(jars, bounds + [Most((0,), 4999)]))
        self.assertFalse(self.start(jars, bounds + [Most((0,), 4998)]))


class FamiliesTest(Nets):
    def refused(self, jars, bounds):
        for asked in (has_room, has_start):
            handed = list(bounds)
            with self.assertRaises(DropsError) as caught:
                asked(jars, handed)
            self.assertIs(caught.exception.__class__, BadCount)
            self.assertEqual(vars(caught.exception), {"what": "groups", "count": 3})
            self.assertEqual(handed, list(bounds))

    def test_three_families(self):
        jars = Jars([9, 9, 9, 9])
        self.refused(jars, [Most((0, 1), 9), Least((1, 2), 1), Most((0, 2), 9)])
        self.refused(jars, (Most((0, 1), -9), Least((1, 2), 99), Most((0, 2), 9), Most((), -1)))
        self.refused(jars, box_of(jars) + [Most((0, 1, 2), 9), Least((1, 2, 3), 1), Most((0, 2, 3), 9)])

    def test_a_ring_of_five(self):
        jars = Jars([9] * 6)
        ring = [Least((0, 1), 1), Least((1, 2), 1), Least((2, 3), 1), Least((3, 4), 1), Least((0, 4), 1)]
        self.refused(jars, ring)
        self.assertIs(has_room(jars, ring[:4]), True)
        even = ring[:4] + [Least((4, 5), 1), Least((0, 5), 1)]
        self.assertIs(has_room(jars, even), True)

    def test_one_crossing_is_two_families(self):
        jars = Jars([9, 9, 9])
        self.assertIs(has_room(jars, [Most((0, 1), 9), Least((1, 2), 1)]), True)
        self.assertIs(has_room(jars, [Most((0, 1), 9), Least((1, 2), 1), Most((0, 1, 2), 9), Most((1,), 3)]), True)

    def test_all_small_sets_of_groups(self):
        jars = Jars([9, 9, 9, 9])
        groups = [group for many in (2, 3, 4) for group in combinations(range(4), many)]
        for many in range(1, 6):
            for picked in combinations(groups, many):
                bounds = [(Most, Least)[at & 1](group, 5) for at, group in enumerate(picked)]
                if of_two_families(picked):
                    self.start(jars, bounds)
                    self.room(jars, bounds)
                else:
                    self.refused(jars, bounds)


if __name__ == "__main__":
    unittest.main()
