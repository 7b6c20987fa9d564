"""A row's tree of tests, and its ways."""

from wholedrops.bounds import Least, Most, box
from wholedrops.choices import first_shares, first_way, is_choice, limit_of, only_way, second_way, tested
from wholedrops.errors import Wide
from wholedrops.sums import Sum

MOST_LEAVES = 24


class Tree:
    """What a row comes to, from whatever start."""


class Leaf(Tree):
    """The sums of the jars behind the row."""

    def __init__(self, sums):
        self.sums = tuple(sums)

    def __eq__(self, other):
        return isinstance(other, Leaf) and self.sums == other.sums


class Test(Tree):
    """A deed both ways of which have room, and the trees behind them."""

    def __init__(self, deed, group, limit, first, second):
        self.deed = deed
        self.group = tuple(sorted(group))
        self.limit = limit
        self.first = first
        self.second = second

    def __eq__(self, other):
        if not isinstance(other, Test):
            return False
        if self.deed != other.deed or self.group != other.group or self.limit != other.limit:
            return False
        return self.first == other.first and self.second == other.second


class Grower:
    """Makes a row's tree, and counts its leaves meanwhile."""

    def __init__(self, row):
        self.jars = row.jars
        self.deeds = row.deeds
        self.leaves = 0

    def grown(self, start, shares):
        """The tree of the deeds from this one on."""
        for number in range(start, len(self.deeds)):
            deed = self.deeds[number]
            if is_choice(self.jars, deed, shares):
                return self.parted(number, shares)
            shares = only_way(self.jars, deed, shares)
        return self.leaf(shares)

    def parted(self, number, shares):
        """The tree whose root is the test of this deed."""
        deed = self.deeds[number]
        first = self.grown(number + 1, first_way(self.jars, deed, shares))
        second = self.grown(number + 1, second_way(self.jars, deed, shares))
        return Test(number, tested(deed, shares).group, limit_of(self.jars, deed, shares), first, second)

    def leaf(self, shares):
        """One leaf more, if it is not one too many."""
        self.leaves += 1
        if self.leaves > MOST_LEAVES:
            raise Wide(self.leaves)
        return Leaf([Sum(share.group, share.more) for share in shares])


def tree_of(row):
    """The row's tree."""
    return Grower(row).grown(0, first_shares(row.jars))


def ways(jars, tree):
    """A pair of bounds and sums for each leaf, first ways ahead of second ones."""
    return ways_behind(box(jars), tree)


def ways_behind(bounds, tree):
    """The ways of the tree where these bounds stand ahead of it."""
    if isinstance(tree, Leaf):
        return [(bounds, tree.sums)]
    first = ways_behind(bounds + [Most(tree.group, tree.limit)], tree.first)
    second = ways_behind(bounds + [Least(tree.group, tree.limit)], tree.second)
    return first + second
