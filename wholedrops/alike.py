"""Whether two rows do the same for all starts, with papers that show it, and whether one leaves ever more in a jar."""

from wholedrops.bounds import Apart
from wholedrops.errors import OtherJars
from wholedrops.jars import check_jar
from wholedrops.lots import copied_by_keys, shows_no_lesser, shows_no_room
from wholedrops.nets import least_start, lot_against_room
from wholedrops.stands import behind, is_whole
from wholedrops.trees import tree_of, ways


class Paper:
    """Holds lots by keys."""

    # A dict that is told is the asker's own: what is changed in it must not change the paper.
    @property
    def lots(self):
        return copied_by_keys(self._lots)

    @lots.setter
    def lots(self, value):
        self._lots = copied_by_keys(value)


class Alike(Paper):
    """Shows that two rows do the same: where their sums are unlike, their ways have no room together."""

    def __init__(self, tree, other, lots):
        self.tree = tree
        self.other = other
        self.lots = lots

    def __eq__(self, other):
        if not isinstance(other, Alike) or self.tree != other.tree:
            return False
        return self.other == other.other and self._lots == other._lots


class Parted(Paper):
    """A whole start at which the jar holds unlike numbers behind two rows, and lots against all lesser ones."""

    def __init__(self, start, jar, total, lots):
        self.start = tuple(start)
        self.jar = jar
        self.total = total
        self.lots = lots

    def __eq__(self, other):
        if not isinstance(other, Parted) or self.start != other.start or self.jar != other.jar:
            return False
        return self.total == other.total and self._lots == other._lots


class Pair:
    """A way of the one row and a way of the other, the bounds of both, and what both come to."""

    def __init__(self, key, bounds, ours, theirs):
        self.key = key
        self.bounds = bounds
        self.ours = ours
        self.theirs = theirs

    def aparts(self):
        """For each jar with unlike sums two keys, each with the bound that one of the sums is above the other."""
        i, j = self.key
        found = {}
        for jar, (ours, theirs) in enumerate(zip(self.ours, self.theirs)):
            if ours != theirs:
                found[(i, j, jar, "above")] = above(ours, theirs)
                found[(i, j, jar, "below")] = above(theirs, ours)
        return found


def above(one, other):
    """The bound of those whole starts at which the one sum is more than the other."""
    return Apart(one.group, other.group, 1 - one.more + other.more)


def check_jars(row, other):
    """Refuse two rows of unlike jars."""
    if row.jars != other.jars:
        raise OtherJars()


def unlike_pairs(jars, tree, other):
    """The pairs of ways whose sums are not all the same."""
    found = []
    theirs = ways(jars, other)
    for i, (bounds, sums) in enumerate(ways(jars, tree)):
        for j, (other_bounds, other_sums) in enumerate(theirs):
            if sums != other_sums:
                found.append(Pair((i, j), bounds + other_bounds, sums, other_sums))
    return found


def held(row, other):
    """An Alike, or a Parted of the least total."""
    check_jars(row, other)
    tree = tree_of(row)
    other_tree = tree_of(other)
    lots = {}
    rooms = []
    for pair in unlike_pairs(row.jars, tree, other_tree):
        lot = lot_against_room(row.jars, pair.bounds)
        if lot is None:
            rooms.append(pair)
        else:
            lots[pair.key] = lot
    if rooms == []:
        return Alike(tree, other_tree, lots)
    return parted(row, other, rooms, lots)


def parted(row, other, rooms, lots):
    """The Parted of rows that have these pairs with room; to the lots of the others come those of these."""
    best = None
    for pair in rooms:
        for key, apart in pair.aparts().items():
            start, lot = least_start(row.jars, pair.bounds + [apart])
            lots[key] = lot
            if start is not None and (best is None or sum(start) < sum(best)):
                best = start
    jar = first_unlike(behind(row, best), behind(other, best))
    return Parted(best, jar, sum(best), lots)


def first_unlike(stand, other):
    """The least jar that holds unlike numbers; there is one."""
    jar = 0
    while stand[jar] == other[jar]:
        jar += 1
    return jar


def are_alike(row, other):
    """Whether both do the same for all starts; refused as held is."""
    check_jars(row, other)
    for pair in unlike_pairs(row.jars, tree_of(row), tree_of(other)):
        if lot_against_room(row.jars, pair.bounds) is None:
            return False
    return True


def is_alike(row, other, paper):
    """Whether the paper is an Alike that shows that both do the same."""
    check_jars(row, other)
    tree = tree_of(row)
    other_tree = tree_of(other)
    if not isinstance(paper, Alike) or paper.tree != tree or paper.other != other_tree:
        return False
    lots = paper.lots
    for pair in unlike_pairs(row.jars, tree, other_tree):
        if not shows_no_room(row.jars, pair.bounds, lots.get(pair.key)):
            return False
    return True


def is_parted(row, other, paper):
    """Whether the paper is a Parted that shows where both part, and that no lesser whole start parts them."""
    check_jars(row, other)
    pairs = unlike_pairs(row.jars, tree_of(row), tree_of(other))
    if not isinstance(paper, Parted) or not parts_at(row, other, paper):
        return False
    lots = paper.lots
    for pair in pairs:
        if shows_no_room(row.jars, pair.bounds, lots.get(pair.key)):
            continue
        for key, apart in pair.aparts().items():
            if not shows_no_lesser(row.jars, pair.bounds + [apart], lots.get(key), paper.total):
                return False
    return True


def parts_at(row, other, paper):
    """Whether the paper's start is a whole one that parts both at its jar, and the total its own."""
    if not is_whole(row.jars, paper.start) or not 0 <= paper.jar < len(row.jars.sizes):
        return False
    if sum(paper.start) != paper.total:
        return False
    return behind(row, paper.start)[paper.jar] != behind(other, paper.start)[paper.jar]


def more(row, other, *, jar):
    """None, or a whole start at which the row leaves more in the jar than the other does."""
    check_jars(row, other)
    check_jar(row.jars, jar)
    for pair in unlike_pairs(row.jars, tree_of(row), tree_of(other)):
        if pair.ours[jar] == pair.theirs[jar]:
            continue
        start, _ = least_start(row.jars, pair.bounds + [above(pair.ours[jar], pair.theirs[jar])])
        if start is not None:
            return start
    return None
