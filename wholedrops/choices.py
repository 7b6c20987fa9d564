"""What a deed may come to: the first way or the second of a choice, with what is sure of the jars behind it."""

from wholedrops.jars import Change, Pour, Put


class Share:
    """A jar's sum, and between what the sum of its group lies, by the box and by the tests so far.

    The groups of the jars share no jar, and no test so far is of a part of one jar's group and of another's. So these
    ends are all that a test of a group, or of two together, can hang on.
    """

    def __init__(self, group, more, low, high):
        self.group = group
        self.more = more
        self.low = low
        self.high = high


def first_shares(jars):
    """What is sure of the jars ahead of the first deed."""
    return [Share((jar,), 0, 0, size) for jar, size in enumerate(jars.sizes)]


def of_no_jar(more):
    """A jar that holds the same from whatever start."""
    return Share((), more, 0, 0)


def together(share, other):
    """Both in one jar."""
    group = tuple(sorted(share.group + other.group))
    return Share(group, share.more + other.more, share.low + other.low, share.high + other.high)


def at_most(share, limit, added):
    """The share where its group's sum is at most the limit, and so much added to it."""
    return Share(share.group, share.more + added, share.low, min(share.high, limit))


def at_least(share, limit, added):
    """The share where its group's sum is at least the limit, and so much added to it."""
    return Share(share.group, share.more + added, max(share.low, limit), share.high)


def tested(deed, shares):
    """The share whose group the deed's test is of."""
    if isinstance(deed, Pour):
        return together(shares[deed.a], shares[deed.b])
    return shares[deed.a]


def limit_of(jars, deed, shares):
    """Up to where the first way is right."""
    more = tested(deed, shares).more
    if isinstance(deed, Pour):
        return jars.sizes[deed.b] - more
    if isinstance(deed, Put):
        return jars.sizes[deed.a] - more - deed.k
    return deed.k - more


def first_way(jars, deed, shares):
    """The shares behind the deed's first way, as a new list."""
    share = tested(deed, shares)
    limit = limit_of(jars, deed, shares)
    after = list(shares)
    if isinstance(deed, Put):
        after[deed.a] = at_most(share, limit, deed.k)
        return after
    after[deed.a] = of_no_jar(0)
    if isinstance(deed, Pour):
        after[deed.b] = at_most(share, limit, 0)
    return after


def second_way(jars, deed, shares):
    """The shares behind the deed's second way, as a new list."""
    share = tested(deed, shares)
    limit = limit_of(jars, deed, shares)
    after = list(shares)
    if isinstance(deed, Put):
        after[deed.a] = of_no_jar(jars.sizes[deed.a])
        return after
    if isinstance(deed, Pour):
        full = jars.sizes[deed.b]
        after[deed.a] = at_least(share, limit, -full)
        after[deed.b] = of_no_jar(full)
        return after
    after[deed.a] = at_least(share, limit, -deed.k)
    return after


def is_choice(jars, deed, shares):
    """Whether both ways of the deed have room."""
    if isinstance(deed, Change):
        return False
    share = tested(deed, shares)
    return share.low < limit_of(jars, deed, shares) < share.high


def only_way(jars, deed, shares):
    """The shares behind a deed that is no choice, as a new list."""
    if isinstance(deed, Change):
        after = list(shares)
        after[deed.a] = shares[deed.b]
        after[deed.b] = shares[deed.a]
        return after
    # Of a group of no jar low and high are both nought; where the limit is too, the first way is the one.
    if tested(deed, shares).high <= limit_of(jars, deed, shares):
        return first_way(jars, deed, shares)
    return second_way(jars, deed, shares)
