"""What a row comes to that is done again and again for ever."""

from math import lcm

from wholedrops.errors import Wide
from wholedrops.stands import behind_round, check_start

MOST_ROUNDS = 20000
MOST_STARTS = 2000


class Turning:
    """The tail and the ring that do for all starts, with whole starts that need them."""

    def __init__(self, tail, ring, late, rings):
        self.tail = tail
        self.ring = ring
        self.late = tuple(late)
        self.rings = rings

    # A list that is told is the asker's own: what is changed in it must not change the object.
    @property
    def rings(self):
        return list(self._rings)

    @rings.setter
    def rings(self, value):
        self._rings = [tuple(start) for start in value]

    def __eq__(self, other):
        if not isinstance(other, Turning) or self.tail != other.tail or self.ring != other.ring:
            return False
        return self.late == other.late and self._rings == other._rings


def fate(row, start, *, parts=1):
    """The pair of the least tail and the least ring of this start."""
    check_start(row.jars, start, parts)
    stand = tuple(start)
    seen = {stand: 0}
    # The first stand that comes again does so behind as many rounds as tail and ring have together.
    for rounds in range(1, MOST_ROUNDS + 1):
        stand = tuple(behind_round(row, stand, parts))
        if stand in seen:
            return seen[stand], rounds - seen[stand]
        seen[stand] = rounds
    raise Wide(MOST_ROUNDS + 1)


def turning(row):
    """The Turning of the row."""
    check_many(row.jars)
    starts = whole_starts(row.jars)
    fates = fates_of({start: tuple(behind_round(row, start, 1)) for start in starts})
    late = starts[0]
    ring = 1
    rings = []
    for start in starts:
        tail, own = fates[start]
        if tail > fates[late][0]:
            late = start
        if rings == [] or lcm(ring, own) > ring:
            ring = lcm(ring, own)
            rings.append(start)
    return Turning(fates[late][0], ring, late, rings)


def check_many(jars):
    """Refuse jars that have too many whole starts."""
    many = 1
    for size in jars.sizes:
        many *= size + 1
    if many > MOST_STARTS:
        raise Wide(many)


def whole_starts(jars):
    """The list of all whole starts, as tuples."""
    found = [()]
    for size in jars.sizes:
        found = [start + (number,) for start in found for number in range(size + 1)]
    return found


def fates_of(after):
    """The pair of tail and ring of each stand, by the stand behind each one."""
    fates = {}
    for first in after:
        path = []
        places = {}
        stand = first
        while stand not in fates and stand not in places:
            places[stand] = len(path)
            path.append(stand)
            stand = after[stand]
        if stand in places:
            ring = len(path) - places[stand]
            for one in path[places[stand]:]:
                fates[one] = (0, ring)
        for one in reversed(path):
            if one not in fates:
                tail, ring = fates[after[one]]
                fates[one] = (tail + 1, ring)
    return fates
