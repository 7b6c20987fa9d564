"""The least whole start that leads to what is wished behind a row, with papers that show it."""

from wholedrops.bounds import Least, Most
from wholedrops.jars import check_jar
from wholedrops.lots import copied, shows_no_lesser, shows_no_start
from wholedrops.nets import least_start
from wholedrops.stands import behind, is_whole
from wholedrops.trees import tree_of, ways


class WayLots:
    """Holds a list of lots, one for each way."""

    # Unlike what is told elsewhere, these are the very lists: what is changed in them changes the paper.
    @property
    def lots(self):
        return self._lots

    @lots.setter
    def lots(self, value):
        self._lots = [copied(lot) for lot in value]


class Led(WayLots):
    """A whole start of this total that leads to the wish, and lots against all lesser ones."""

    def __init__(self, start, total, tree, lots):
        self.start = tuple(start)
        self.total = total
        self.tree = tree
        self.lots = lots

    def __eq__(self, other):
        if not isinstance(other, Led) or self.start != other.start or self.total != other.total:
            return False
        return self.tree == other.tree and self._lots == other._lots


class NoneLed(WayLots):
    """Lots against each start that would lead to the wish."""

    def __init__(self, tree, lots):
        self.tree = tree
        self.lots = lots

    def __eq__(self, other):
        return isinstance(other, NoneLed) and self.tree == other.tree and self._lots == other._lots


def check_wish(jars, wish):
    """Refuse a wish for what is no jar, the least such one."""
    for jar in sorted(wish):
        check_jar(jars, jar)


def wished_bounds(jars, tree, wish):
    """For each way a list of its bounds and those of the wish."""
    found = []
    for bounds, sums in ways(jars, tree):
        asked = list(bounds)
        for jar in sorted(wish):
            number = wish[jar] - sums[jar].more
            asked.append(Least(sums[jar].group, number))
            asked.append(Most(sums[jar].group, number))
        found.append(asked)
    return found


def led(row, wish):
    """A Led of the least total, or a NoneLed."""
    check_wish(row.jars, wish)
    tree = tree_of(row)
    lots = []
    best = None
    for bounds in wished_bounds(row.jars, tree, wish):
        start, lot = least_start(row.jars, bounds)
        lots.append(lot)
        if start is not None and (best is None or sum(start) < sum(best)):
            best = start
    if best is None:
        return NoneLed(tree, lots)
    return Led(best, sum(best), tree, lots)


def is_led(row, wish, paper):
    """Whether the paper shows the least whole start that leads to the wish, or that none does."""
    check_wish(row.jars, wish)
    tree = tree_of(row)
    if not isinstance(paper, WayLots) or paper.tree != tree:
        return False
    if isinstance(paper, Led) and not leads(row, wish, paper):
        return False
    asked = wished_bounds(row.jars, tree, wish)
    if len(paper.lots) != len(asked):
        return False
    for bounds, lot in zip(asked, paper.lots):
        if isinstance(paper, Led):
            shown = shows_no_lesser(row.jars, bounds, lot, paper.total)
        else:
            shown = shows_no_start(row.jars, bounds, lot)
        if not shown:
            return False
    return True


def leads(row, wish, paper):
    """Whether the paper's start is a whole one that leads to the wish, and the total its own."""
    if not is_whole(row.jars, paper.start) or sum(paper.start) != paper.total:
        return False
    after = behind(row, paper.start)
    return all([after[jar] == wish[jar] for jar in wish])
