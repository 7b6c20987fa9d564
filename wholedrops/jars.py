"""Jars, the deeds that are done to them, and rows of deeds."""

from wholedrops.errors import BadCount, NoJar, SameJar, Sizes

MOST_JARS = 6
MOST_DEEDS = 20
MOST_MUCH = 10 ** 12


class Jars:
    """Jars by their sizes, numbered from 0."""

    def __init__(self, sizes):
        if not 1 <= len(sizes) <= MOST_JARS:
            raise BadCount("jars", len(sizes))
        for size in sizes:
            check_much("size", size)
        self.sizes = tuple(sizes)

    def __eq__(self, other):
        return isinstance(other, Jars) and self.sizes == other.sizes


class Deed:
    """What can be done to jars; a deed by itself may name any jars and amounts."""


class Pour(Deed):
    """From a to b, till a is empty or b is full."""

    def __init__(self, a, b):
        self.a = a
        self.b = b

    def __eq__(self, other):
        return isinstance(other, Pour) and self.a == other.a and self.b == other.b


class Put(Deed):
    """k into a, or as much as has room."""

    def __init__(self, a, k):
        self.a = a
        self.k = k

    def __eq__(self, other):
        return isinstance(other, Put) and self.a == other.a and self.k == other.k


class Draw(Deed):
    """k out of a, or all there is."""

    def __init__(self, a, k):
        self.a = a
        self.k = k

    def __eq__(self, other):
        return isinstance(other, Draw) and self.a == other.a and self.k == other.k


class Change(Deed):
    """What a and b hold, exchanged."""

    def __init__(self, a, b):
        self.a = a
        self.b = b

    def __eq__(self, other):
        return isinstance(other, Change) and self.a == other.a and self.b == other.b


class Row:
    """Deeds that are done to jars, one behind the other."""

    def __init__(self, jars, deeds):
        if len(deeds) > MOST_DEEDS:
            raise BadCount("deeds", len(deeds))
        for deed in deeds:
            check_deed(jars, deed)
        self.jars = jars
        self.deeds = tuple(deeds)

    def __eq__(self, other):
        return isinstance(other, Row) and self.jars == other.jars and self.deeds == other.deeds


def check_much(what, much):
    """Refuse a size or an amount that is too small or too big."""
    if not 1 <= much <= MOST_MUCH:
        raise BadCount(what, much)


def check_jar(jars, jar):
    """Refuse a number that is none of the jars."""
    if not 0 <= jar < len(jars.sizes):
        raise NoJar(jar)


def check_deed(jars, deed):
    """Refuse a deed that cannot be done to these jars."""
    check_jar(jars, deed.a)
    if isinstance(deed, Put) or isinstance(deed, Draw):
        check_much("much", deed.k)
        return
    check_jar(jars, deed.b)
    if deed.a == deed.b:
        raise SameJar(deed.a)
    if isinstance(deed, Change) and jars.sizes[deed.a] != jars.sizes[deed.b]:
        raise Sizes(deed.a, deed.b)
