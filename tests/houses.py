"""What several test files share: all deeds and starts of small houses, and bounds by the document's words."""

import inspect
import unittest
from itertools import product

from wholedrops.bounds import Apart, Least, Most, load, worth
from wholedrops.errors import DropsError, Wide
from wholedrops.jars import Change, Draw, Jars, Pour, Put, Row
from wholedrops.trees import tree_of

MOST = 10 ** 12


class Refusing(unittest.TestCase):
    def refused(self, refusal, fields, call, *given, **named):
        """The call is refused with just this class and these fields."""
        with self.assertRaises(DropsError) as caught:
            call(*given, **named)
        self.assertIs(caught.exception.__class__, refusal)
        self.assertEqual(vars(caught.exception), fields)

    def defined(self, module, classes, functions):
        """These are all defined in this module's own file."""
        for name in classes:
            self.assertTrue(inspect.isclass(getattr(module, name)))
        for name in functions:
            self.assertTrue(inspect.isfunction(getattr(module, name)))
        for name in (*classes, *functions):
            self.assertEqual(getattr(module, name).__module__, module.__name__)


def all_deeds(sizes, most):
    jars = range(len(sizes))
    deeds = [made(a, k) for made in (Put, Draw) for a in jars for k in range(1, most + 1)]
    for a, b in product(jars, jars):
        if a != b:
            deeds.append(Pour(a, b))
            if sizes[a] == sizes[b]:
                deeds.append(Change(a, b))
    return deeds


def all_starts(sizes, parts):
    return list(product(*[range(size * parts + 1) for size in sizes]))


def summed(group, start):
    return sum(start[jar] for jar in group)


def slack(bound, start, parts=1):
    """By how many parts the start keeps the bound: below nought where it does not, nought where it is just met."""
    if isinstance(bound, Most):
        return bound.number * parts - summed(bound.group, start)
    if isinstance(bound, Least):
        return summed(bound.group, start) - bound.number * parts
    assert isinstance(bound, Apart)
    return summed(bound.ours, start) - summed(bound.theirs, start) - bound.number * parts


def keeps(bounds, start, parts=1):
    return all(slack(bound, start, parts) >= 0 for bound in bounds)


def keeps_apart(bounds, start, parts=1):
    """Whether the start keeps all bounds and none is just met."""
    return all(slack(bound, start, parts) > 0 for bound in bounds)


def box_of(jars):
    found = []
    for jar, size in enumerate(jars.sizes):
        found += [Least((jar,), 0), Most((jar,), size)]
    return found


def by_ones(size, *many):
    """Each jar is drawn from by ones, so often: it alone has one leaf more, and those of all are multiplied."""
    return Row(Jars([size] * len(many)), [Draw(jar, 1) for jar, often in enumerate(many) for _ in range(often)])


def drawn_row(drawn, sizes, many):
    deeds = []
    for _ in range(many):
        kind = drawn.choice((Pour, Pour, Pour, Put, Draw, Change))
        if kind in (Put, Draw):
            a = drawn.randrange(len(sizes))
            deeds.append(kind(a, drawn.choice((1, sizes[a], drawn.randint(1, sizes[a])))))
        elif len(sizes) > 1:
            a, b = drawn.sample(range(len(sizes)), 2)
            deeds.append(kind(a, b) if kind is Pour or sizes[a] == sizes[b] else Pour(a, b))
    return Row(Jars(sizes), deeds)


def near_row(drawn, row):
    """The row with a deed left out, done twice or exchanged with the next one: often alike to the row."""
    deeds = list(row.deeds)
    if deeds:
        at = drawn.randrange(len(deeds))
        deeds[at:at + 2] = drawn.choice((deeds[at + 1:at + 2], [deeds[at]] + deeds[at:at + 2], deeds[at:at + 2][::-1]))
    return Row(row.jars, deeds[:20])


def is_wide(row):
    try:
        tree_of(row)
    except Wide:
        return True
    return False


def small_rows(drawn, many):
    """So many pairs of drawn rows of one small house, none of them Wide, half of them near to each other."""
    while many > 0:
        tops = drawn.choice(((9,), (5, 4), (3, 2), (3, 2, 2), (2, 2, 3), (2, 1, 2, 1), (1, 1, 2, 1, 1), (1,) * 6))
        sizes = [drawn.randint(1, top) for top in tops]
        row = drawn_row(drawn, sizes, drawn.randint(0, 8))
        other = near_row(drawn, row) if many % 2 else drawn_row(drawn, sizes, drawn.randint(0, 8))
        if not is_wide(row) and not is_wide(other):
            yield row, other
            many -= 1


def shows(lot, bounds, most_load, least_worth):
    """By the document's words: a list of none but these bounds, loaded at most, or just, and worth at least so much."""
    if lot.__class__ is not list or any(bound not in bounds for bound in lot):
        return False
    loads = [load(lot, jar) for jar in range(6)]
    if most_load == 0:
        return not any(loads) and worth(lot) >= least_worth
    return max(loads) <= most_load and worth(lot) >= least_worth
