"""Sums: what a jar holds behind some deeds, told by what the jars held ahead of them."""


class Sum:
    """The amounts of these jars at the start together, and more."""

    def __init__(self, group, more):
        self.group = tuple(sorted(group))
        self.more = more

    def __eq__(self, other):
        return isinstance(other, Sum) and self.group == other.group and self.more == other.more
