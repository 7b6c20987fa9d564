"""Bounds of what a start's groups of jars hold, and lots of such bounds."""


class Bound:
    """What a start may keep; each kind has its own fields."""


class Most(Bound):
    """The sum of the group is at most the number."""

    def __init__(self, group, number):
        self.group = tuple(sorted(group))
        self.number = number

    def __eq__(self, other):
        return isinstance(other, Most) and self.group == other.group and self.number == other.number


class Least(Bound):
    """The sum of the group is at least the number."""

    def __init__(self, group, number):
        self.group = tuple(sorted(group))
        self.number = number

    def __eq__(self, other):
        return isinstance(other, Least) and self.group == other.group and self.number == other.number


class Apart(Bound):
    """The sum of the group ours, less that of theirs, is at least the number."""

    def __init__(self, ours, theirs, number):
        self.ours = tuple(sorted(ours))
        self.theirs = tuple(sorted(theirs))
        self.number = number

    def __eq__(self, other):
        if not isinstance(other, Apart):
            return False
        return self.ours == other.ours and self.theirs == other.theirs and self.number == other.number


def box(jars):
    """A new list of the bounds that each start keeps, jar by jar, the least ahead of the most."""
    found = []
    for jar, size in enumerate(jars.sizes):
        found.append(Least((jar,), 0))
        found.append(Most((jar,), size))
    return found


def load_of(bound, jar):
    """What one bound of a lot brings to its load on the jar."""
    if isinstance(bound, Apart):
        return int(jar in bound.ours) - int(jar in bound.theirs)
    if isinstance(bound, Least):
        return int(jar in bound.group)
    return -int(jar in bound.group)


def worth_of(bound):
    """What one bound of a lot brings to its worth."""
    if isinstance(bound, Most):
        return -bound.number
    return bound.number


def load(lot, jar):
    """In how many Least of the lot the jar stands, less in how many Most."""
    return sum([load_of(bound, jar) for bound in lot])


def worth(lot):
    """The sum of the numbers of the lot's Least, less that of its Most."""
    return sum([worth_of(bound) for bound in lot])
