"""Rows as texts."""

from wholedrops.errors import BadText
from wholedrops.jars import Change, Draw, Pour, Put, Row

MOST_FIGURES = 13
NO_DEEDS = "none"


def row_text(row):
    """The row's text."""
    if len(row.deeds) == 0:
        return NO_DEEDS
    return ", ".join([deed_text(deed) for deed in row.deeds])


def deed_text(deed):
    """One deed's text."""
    if isinstance(deed, Pour):
        return f"pour {deed.a} {deed.b}"
    if isinstance(deed, Put):
        return f"put {deed.a} {deed.k}"
    if isinstance(deed, Draw):
        return f"draw {deed.a} {deed.k}"
    return f"change {deed.a} {deed.b}"


def read_row(jars, text):
    """The row that the text tells."""
    return Row(jars, read_deeds(text))


def read_deeds(text):
    """The list of the deeds that the text tells, whether or not a row can have them."""
    if text == NO_DEEDS:
        return []
    return [read_deed(place, part) for place, part in enumerate(text.split(", "))]


def read_deed(place, text):
    """The deed of this text; the place is for the refusal."""
    parts = text.split(" ")
    if len(parts) != 3 or not is_number(parts[1]) or not is_number(parts[2]):
        raise BadText(place)
    one = int(parts[1])
    other = int(parts[2])
    if parts[0] == "pour":
        return Pour(one, other)
    if parts[0] == "put":
        return Put(one, other)
    if parts[0] == "draw":
        return Draw(one, other)
    if parts[0] == "change":
        return Change(one, other)
    raise BadText(place)


def is_number(part):
    """Whether it has 1 to 13 figures, without a nought ahead but nought itself."""
    if not 1 <= len(part) <= MOST_FIGURES or not all(["0" <= sign <= "9" for sign in part]):
        return False
    return part == "0" or part[0] != "0"
