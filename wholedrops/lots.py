"""What a lot shows of bounds, and copies of lots for papers to hold and to tell."""

from wholedrops.bounds import load, worth


def copied(lot):
    """The lot as a new list; what is no row of bounds stays what it is, and shows nothing."""
    if isinstance(lot, (list, tuple)):
        return list(lot)
    return lot


def copied_by_keys(lots):
    """A new dict of new lists."""
    return {key: copied(lot) for key, lot in lots.items()}


def loads_of(jars, lot):
    """The lot's load on each jar."""
    return [load(lot, jar) for jar in range(len(jars.sizes))]


def is_of(bounds, lot):
    """Whether it is a list or a tuple of none but these bounds."""
    return isinstance(lot, (list, tuple)) and all([bound in bounds for bound in lot])


def shows_no_room(jars, bounds, lot):
    """Whether it is a lot of these bounds that shows that they have no room."""
    # A lot of no bounds has no load and a worth of nought, too, and shows nothing.
    if not is_of(bounds, lot) or len(lot) == 0:
        return False
    return not any(loads_of(jars, lot)) and worth(lot) >= 0


def shows_no_start(jars, bounds, lot):
    """Whether it is a lot of these bounds that shows that no start keeps them."""
    return is_of(bounds, lot) and not any(loads_of(jars, lot)) and worth(lot) >= 1


def shows_no_lesser(jars, bounds, lot, total):
    """Whether it is a lot of these bounds that shows that no start of a lesser total keeps them, perhaps none."""
    if shows_no_start(jars, bounds, lot):
        return True
    return is_of(bounds, lot) and max(loads_of(jars, lot)) <= 1 and worth(lot) >= total
