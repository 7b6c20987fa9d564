"""The refusals: what a call raises that does not do what it was asked."""


class DropsError(ValueError):
    """What all refusals stand under."""

    def told(self):
        return "refused dropserror"


class BadCount(DropsError):
    """A number of its kind that is too low, too high or not the right one."""

    def __init__(self, what, count):
        self.what = what
        self.count = count

    def told(self):
        return "refused badcount"


class NoJar(DropsError):
    """A number that is no jar's."""

    def __init__(self, jar):
        self.jar = jar

    def told(self):
        return "refused nojar"


class SameJar(DropsError):
    """A deed between two jars that has the same jar twice."""

    def __init__(self, jar):
        self.jar = jar

    def told(self):
        return "refused samejar"


class Sizes(DropsError):
    """A change between two jars of unlike sizes."""

    def __init__(self, a, b):
        self.a = a
        self.b = b

    def told(self):
        return "refused sizes"


class BadStart(DropsError):
    """A start that holds less than nothing, or more than has room, in this jar."""

    def __init__(self, jar):
        self.jar = jar

    def told(self):
        return "refused badstart"


class OtherJars(DropsError):
    """Two rows that have unlike jars."""

    def told(self):
        return "refused otherjars"


class Wide(DropsError):
    """More to look at than is looked at."""

    def __init__(self, count):
        self.count = count

    def told(self):
        return "refused wide"


class NoName(DropsError):
    """A text that is no name."""

    def __init__(self, name):
        self.name = name

    def told(self):
        return "refused noname"


class NoRow(DropsError):
    """A name under which no row is kept."""

    def __init__(self, name):
        self.name = name

    def told(self):
        return "refused norow"


class NoBack(DropsError):
    """Nothing is there to be taken back."""

    def told(self):
        return "refused noback"


class BadText(DropsError):
    """A row's text with a deed, at this place from 0, that is not of its form."""

    def __init__(self, place):
        self.place = place

    def told(self):
        return "refused badtext"
