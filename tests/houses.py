"""What several test files share: all deeds and starts of small houses, and bounds by the document's words."""

from itertools import product

from wholedrops.bounds import Apart, Least, Most
from wholedrops.jars import Change, Draw, Pour, Put


def all_deeds(sizes, most):
    jars = range(len(sizes))
    deeds = [made(a, k) for made in (Put, Draw) for a in jars for k in range(1, most + 1)]
    for a, b in product(jars, jars):
        if a != b:
            deeds.append(Pour(a, b))
            if sizes[a] == sizes[b]:
                deeds.append(Change(a, b))
    return deeds


def all_starts(sizes, parts):
    return list(product(*[range(size * parts + 1) for size in sizes]))


def summed(group, start):
    return sum(start[jar] for jar in group)


def slack(bound, start, parts=1):
    """By how many parts the start keeps the bound: below nought where it does not, nought where it is just met."""
    if isinstance(bound, Most):
        return bound.number * parts - summed(bound.group, start)
    if isinstance(bound, Least):
        return summed(bound.group, start) - bound.number * parts
    assert isinstance(bound, Apart)
    return summed(bound.ours, start) - summed(bound.theirs, start) - bound.number * parts


def keeps(bounds, start, parts=1):
    return all(slack(bound, start, parts) >= 0 for bound in bounds)


def keeps_apart(bounds, start, parts=1):
    """Whether the start keeps all bounds and none is just met."""
    return all(slack(bound, start, parts) > 0 for bound in bounds)


def box_of(jars):
    found = []
    for jar, size in enumerate(jars.sizes):
        found += [Least((jar,), 0), Most((jar,), size)]
    return found
