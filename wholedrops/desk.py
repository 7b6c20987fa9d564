"""A desk that is told rows of text, and answers with rows of text."""

from wholedrops.alike import Alike, held, more
from wholedrops.book import Book
from wholedrops.errors import BadText, DropsError
from wholedrops.lean import lean
from wholedrops.led import NoneLed, led
from wholedrops.rounds import fate, turning
from wholedrops.rowtexts import is_number, read_deeds, row_text
from wholedrops.stands import behind


def read_number(part):
    """The number of this part."""
    if not is_number(part):
        # Of a desk's row no place is told.
        raise BadText(0)
    return int(part)


def read_wish(parts):
    """The wish of these parts, each a jar and a number."""
    wish = {}
    for part in parts:
        pieces = part.split("=")
        if len(pieces) != 2:
            raise BadText(0)
        jar = read_number(pieces[0])
        number = read_number(pieces[1])
        if jar in wish:
            raise BadText(0)
        wish[jar] = number
    return wish


def tell_keep(book, parts):
    deeds = read_deeds(" ".join(parts[1:]))
    book.keep(parts[0], deeds)
    return ["done"]


def tell_drop(book, parts):
    book.drop(parts[0])
    return ["done"]


def tell_back(book, parts):
    book.back()
    return ["done"]


def tell_row(book, parts):
    return [row_text(book.row(parts[0]))]


def tell_names(book, parts):
    return book.names()


def tell_behind(book, parts):
    times = read_number(parts[1])
    start = [read_number(part) for part in parts[2:]]
    after = behind(book.row(parts[0]), start, times=times)
    return [" ".join([str(number) for number in after])]


def tell_held(book, parts):
    paper = held(book.row(parts[0]), book.row(parts[1]))
    if isinstance(paper, Alike):
        return ["alike"]
    return [f"parted {paper.total}"]


def tell_more(book, parts):
    jar = read_number(parts[2])
    start = more(book.row(parts[0]), book.row(parts[1]), jar=jar)
    if start is None:
        return ["never"]
    return ["more"]


def tell_fate(book, parts):
    start = [read_number(part) for part in parts[1:]]
    tail, ring = fate(book.row(parts[0]), start)
    return [f"{tail} {ring}"]


def tell_turning(book, parts):
    told = turning(book.row(parts[0]))
    return [f"{told.tail} {told.ring}"]


def tell_led(book, parts):
    wish = read_wish(parts[1:])
    paper = led(book.row(parts[0]), wish)
    if isinstance(paper, NoneLed):
        return ["none"]
    return [f"led {paper.total}"]


def tell_lean(book, parts):
    return [row_text(lean(book.row(parts[0])))]


def tell_claim(book, parts):
    return [truth_text(book.claim(parts[0], parts[1]))]


def tell_claims(book, parts):
    return [f"{name} {other} {truth_text(told)}" for name, other, told in book.claims()]


def truth_text(told):
    """True or False, as a row has it."""
    if told:
        return "true"
    return "false"


# Who answers a row, by its first part.
ANSWERS = {
    "keep": tell_keep, "drop": tell_drop, "back": tell_back, "row": tell_row, "names": tell_names,
    "behind": tell_behind, "held": tell_held, "more": tell_more, "fate": tell_fate, "turning": tell_turning,
    "led": tell_led, "lean": tell_lean, "claim": tell_claim, "claims": tell_claims,
}
# How many parts stand behind the first one: just as many, or at least.
JUST = {
    "drop": 1, "back": 0, "row": 1, "names": 0, "held": 2, "more": 3, "turning": 1, "lean": 1, "claim": 2, "claims": 0,
}
AT_LEAST = {"keep": 2, "behind": 3, "fate": 2, "led": 2}


def is_asked(word, many):
    """Whether a row may begin with this word and have so many parts behind it."""
    if word in JUST:
        return many == JUST[word]
    return word in AT_LEAST and many >= AT_LEAST[word]


def answer(book, row):
    """The answer to a row, which may be refused."""
    parts = row.split(" ")
    if "" in parts or not is_asked(parts[0], len(parts) - 1):
        raise BadText(0)
    teller = ANSWERS[parts[0]]
    return teller(book, parts[1:])


class Desk:
    """Has a book, and answers each row."""

    def __init__(self, jars):
        self.book = Book(jars)

    def tell(self, row):
        """The list of texts that answers the row."""
        try:
            return answer(self.book, row)
        except DropsError as refusal:
            return [refusal.told()]
