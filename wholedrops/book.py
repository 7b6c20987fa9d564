"""A book of rows by names, and of what was claimed of them."""

from wholedrops.alike import are_alike
from wholedrops.errors import BadCount, NoBack, NoName, NoRow
from wholedrops.jars import Row

MOST_SIGNS = 8
MOST_ROWS = 8


class Book:
    """Keeps rows, tells which are alike, and takes back what changed it."""

    def __init__(self, jars):
        self.jars = jars
        # These dicts are replaced, never changed: so the past may hold them as they are.
        self.kept = {}
        self.claimed = {}
        self.past = []

    def keep(self, name, deeds):
        """Keep a row of these deeds by this name, in the place of an elder one."""
        if not is_name(name):
            raise NoName(name)
        if name not in self.kept and len(self.kept) >= MOST_ROWS:
            raise BadCount("rows", MOST_ROWS + 1)
        row = Row(self.jars, deeds)
        if name in self.kept and self.kept[name] == row:
            return
        self.become({**self.kept, name: row}, without(self.claimed, name))

    def drop(self, name):
        """Keep the row of this name no more."""
        self.row(name)
        kept = {other: self.kept[other] for other in self.kept if other != name}
        self.become(kept, without(self.claimed, name))

    def row(self, name):
        """The row of this name."""
        if name not in self.kept:
            raise NoRow(name)
        return self.kept[name]

    def names(self):
        """The sorted list of the rows' names."""
        return sorted(self.kept)

    def claim(self, name, other):
        """Whether both rows are alike; this is kept."""
        row = self.row(name)
        other_row = self.row(other)
        pair = (min(name, other), max(name, other))
        if pair not in self.claimed:
            claimed = {known: self.claimed[known] for known in self.claimed}
            claimed[pair] = are_alike(row, other_row)
            self.become(self.kept, claimed)
        return self.claimed[pair]

    def claims(self):
        """The sorted list of what was claimed: the lesser name, the other one, and whether they are alike."""
        return sorted([(name, other, told) for (name, other), told in self.claimed.items()])

    def shown(self):
        """The sorted list of the pairs of unlike names that are alike by the claims."""
        return [(name, other) for name in self.names() for other in self.reached(name) if name < other]

    def against(self):
        """The sorted list of the pairs that were claimed not to be alike."""
        return [(name, other) for name, other, told in self.claims() if not told]

    def many(self):
        """How many changes can be taken back."""
        return len(self.past)

    def back(self):
        """Take the last change back."""
        if self.past == []:
            raise NoBack()
        self.kept, self.claimed = self.past.pop()

    def become(self, kept, claimed):
        """Change what is kept and claimed."""
        self.past.append((self.kept, self.claimed))
        self.kept = kept
        self.claimed = claimed

    def reached(self, name):
        """The sorted list of the names that a row of claims leads to from this one, and this one."""
        found = {name: True}
        waiting = [name]
        while waiting:
            one = waiting.pop()
            for pair, told in self.claimed.items():
                if told and one in pair:
                    for other in pair:
                        if other not in found:
                            found[other] = True
                            waiting.append(other)
        return sorted(found)


def is_name(name):
    """Whether it has 1 to 8 signs, small letters and figures, a letter first."""
    if not 1 <= len(name) <= MOST_SIGNS or not "a" <= name[0] <= "z":
        return False
    return all(["a" <= sign <= "z" or "0" <= sign <= "9" for sign in name])


def without(claimed, name):
    """The claims, as a new dict, but those of the row of this name."""
    return {pair: claimed[pair] for pair in claimed if name not in pair}
