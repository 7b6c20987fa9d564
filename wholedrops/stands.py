"""Starts, and what the jars hold behind a row."""

from wholedrops.errors import BadCount, BadStart
from wholedrops.jars import Draw, Pour, Put

MOST_TIMES = 1000


def check_start(jars, start, parts):
    """Refuse a row of numbers that the jars cannot hold, in these parts."""
    if parts < 1:
        raise BadCount("parts", parts)
    if len(start) != len(jars.sizes):
        raise BadCount("start", len(start))
    for jar, size in enumerate(jars.sizes):
        if not 0 <= start[jar] <= size * parts:
            raise BadStart(jar)


def is_whole(jars, start):
    """Whether it is a whole start of these jars."""
    if len(start) != len(jars.sizes):
        return False
    return all([0 <= number <= size for number, size in zip(start, jars.sizes)])


def behind_deed(jars, deed, stand, parts):
    """The numbers behind one deed, as a new list."""
    after = list(stand)
    a = deed.a
    if isinstance(deed, Put):
        after[a] = min(stand[a] + deed.k * parts, jars.sizes[a] * parts)
        return after
    if isinstance(deed, Draw):
        after[a] = max(stand[a] - deed.k * parts, 0)
        return after
    b = deed.b
    if isinstance(deed, Pour):
        moved = min(stand[a], jars.sizes[b] * parts - stand[b])
        after[a] = stand[a] - moved
        after[b] = stand[b] + moved
        return after
    after[a] = stand[b]
    after[b] = stand[a]
    return after


def behind_round(row, stand, parts):
    """The numbers behind the whole row, done once, as a new list."""
    after = list(stand)
    for deed in row.deeds:
        after = behind_deed(row.jars, deed, after, parts)
    return after


def behind(row, start, *, parts=1, times=1):
    """The list of the numbers behind the row, done so often."""
    check_start(row.jars, start, parts)
    if not 0 <= times <= MOST_TIMES:
        raise BadCount("times", times)
    stand = list(start)
    for _ in range(times):
        stand = behind_round(row, stand, parts)
    return stand
