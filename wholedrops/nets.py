"""Whether bounds of two nested families have room, and whether they have a whole start, of what least total.

A bound's slack is by how much a start keeps it: its load on each jar times the amount, less its worth. As many bounds
as there are jars make a corner, where their slacks are nought; the slack of each bound is told by those of the corner.
Where bounds are of two nested families, all loads that come up in this are -1, 0 and 1, so corners are whole; with one
Apart of two groups, each of which lies within no other one of its family, they still are.
"""

from wholedrops.bounds import box, load_of, worth_of
from wholedrops.errors import BadCount


class Table:
    """The slacks of bounds and of the box, told by the slacks of a corner.

    A row has one number for each bound of the corner, in the corner's order, and last what the slack is at the corner.
    """

    def __init__(self, jars, bounds, scale, gap):
        """Of each bound scale times its worth, and the gap more, is asked for."""
        kept = tightest(jars, bounds)
        self.bounds = list(kept.values())
        needs = [scale * worth_of(bound) + gap for bound in self.bounds]
        # The box stands first in kept, the least of a jar ahead of its most.
        self.corner = [2 * jar for jar in range(len(jars.sizes))]
        self.lows = [needs[at] for at in self.corner]
        self.rows = []
        for loads, need in zip(kept, needs):
            reached = sum([loads[jar] * low for jar, low in enumerate(self.lows)])
            self.rows.append(list(loads) + [reached - need])
        # By how much all amounts together grow with each slack of the corner; none of it ever falls below nought.
        self.costs = [1] * len(self.lows)

    def settle(self):
        """Go from corner to corner, to the least total at which no slack is below nought: None, or a lot against it."""
        while True:
            short = self.first_short()
            if short is None:
                return None
            column = self.way_up(self.rows[short])
            if column is None:
                return self.lot_against(short)
            self.turn(short, column)

    def first_short(self):
        """The first bound that the corner does not keep."""
        # The first one, here and in way_up: so no corner comes twice.
        for at, row in enumerate(self.rows):
            if row[-1] < 0:
                return at
        return None

    def way_up(self, row):
        """The place of the corner's bound that is to be left, for the least that the total gains by it."""
        best = None
        for column, bound in enumerate(self.corner):
            if row[column] > 0:
                cost = (self.costs[column], bound)
                if best is None or cost < (self.costs[best], self.corner[best]):
                    best = column
        return best

    def turn(self, entering, column):
        """Put a bound into the corner, in the place of the one that is left."""
        lead = self.rows[entering]
        self.rows = [turned(row, lead, column) for row in self.rows]
        self.costs = turned(self.costs, lead, column)
        self.corner[column] = entering

    def lot_against(self, short):
        """The lot whose slacks together are, at each start, what this one is at the corner: below nought."""
        row = self.rows[short]
        lot = [self.bounds[short]]
        for column, bound in enumerate(self.corner):
            # No number of this row is above nought, as there was no way up.
            for _ in range(-row[column]):
                lot.append(self.bounds[bound])
        return lot

    def floor(self):
        """The lot that shows that no start has a lesser total than the corner: it has load 1 on each jar."""
        lot = []
        for bound, cost in zip(self.corner, self.costs):
            for _ in range(cost):
                lot.append(self.bounds[bound])
        return lot

    def amounts(self):
        """What the jars hold at the corner, scaled as was asked for."""
        return tuple([low + self.rows[2 * jar][-1] for jar, low in enumerate(self.lows)])


def turned(row, lead, column):
    """The row told by the lead's slack in the place of the column's; the lead's own number there is 1."""
    factor = row[column]
    if factor == 0:
        return row
    found = [number - factor * other for number, other in zip(row, lead)]
    found[column] = factor
    return found


def tightest(jars, bounds):
    """A dict from loads to the bound of most worth that has them, first the box's loads: the others follow from it."""
    kept = {}
    for bound in box(jars) + list(bounds):
        loads = tuple([load_of(bound, jar) for jar in range(len(jars.sizes))])
        if loads not in kept or worth_of(kept[loads]) < worth_of(bound):
            kept[loads] = bound
    return kept


def crosses(group, other):
    """Whether two groups can not be of one nested family."""
    shared = [jar for jar in group if jar in other]
    return 0 < len(shared) < min(len(group), len(other))


def check_groups(bounds):
    """Refuse bounds whose groups are not of two nested families."""
    groups = sorted(set([bound.group for bound in bounds]))
    family = {}
    for group in groups:
        if group not in family:
            family[group] = 0
            part_crossing(groups, group, family)


def part_crossing(groups, first, family):
    """From the first on, put what crosses a group into the other family; refuse what is in the group's own by then."""
    waiting = [first]
    while waiting:
        group = waiting.pop()
        for other in groups:
            if not crosses(group, other):
                continue
            if other not in family:
                family[other] = 1 - family[group]
                waiting.append(other)
            elif family[other] == family[group]:
                raise BadCount("groups", 3)


def lot_against_room(jars, bounds):
    """None where the bounds have room, else a lot that shows that they have none."""
    # A lot against it has at most one bound more than there are jars. So in this many parts, where each bound asks for
    # one part more, the lot's worth by itself must be from nought on.
    return Table(jars, bounds, len(jars.sizes) + 2, 1).settle()


def least_start(jars, bounds):
    """A whole start of the least total that keeps the bounds, and a lot that shows that none has a lesser one.

    Where no start keeps them it is None and a lot that shows this. The bounds may be of two nested families, and one
    Apart of groups that lie within no other one of theirs.
    """
    table = Table(jars, bounds, 1, 0)
    lot = table.settle()
    if lot is None:
        return table.amounts(), table.floor()
    return None, lot


def has_room(jars, bounds):
    """True, or a lot that shows that there is no start at which none of the bounds is just met."""
    check_groups(bounds)
    lot = lot_against_room(jars, bounds)
    if lot is None:
        return True
    return lot


def has_start(jars, bounds):
    """A whole start that keeps the bounds, or a lot that shows that none does."""
    check_groups(bounds)
    start, lot = least_start(jars, bounds)
    if start is None:
        return lot
    return start
