"""Rows without the deeds that change nothing of what the row does."""

from wholedrops.alike import are_alike
from wholedrops.errors import Wide
from wholedrops.jars import Row
from wholedrops.trees import tree_of


def lean(row):
    """A row that does the same for all starts, of which no other single deed can be left out."""
    # The row itself is refused where it is Wide, but not what it is without a deed.
    tree_of(row)
    told = Row(row.jars, row.deeds)
    many = len(told.deeds) + 1
    while len(told.deeds) < many:
        many = len(told.deeds)
        told = gone_through(row, told)
    return told


def gone_through(row, told):
    """What is left of the told row where its deeds are tried once, from the first one on."""
    at = 0
    while at < len(told.deeds):
        shorter = Row(told.jars, told.deeds[:at] + told.deeds[at + 1:])
        if does_for(row, shorter):
            told = shorter
        else:
            at += 1
    return told


def does_for(row, shorter):
    """Whether the shorter row is alike to the row, and not Wide."""
    try:
        return are_alike(row, shorter)
    except Wide:
        return False
