"""The errors of the program. Each keeps its arguments under their names."""


class WebError(ValueError):
    """What all errors of this package are."""


class OtherLeaves(WebError):
    """The webs have not equally many leaves."""


class NoPaper(WebError):
    """The value is no paper: word tells what is wrong, number where."""

    def __init__(self, word, number):
        self.word = word
        self.number = number


class NoWay(WebError):
    """The value is no way, or no number of one."""

    def __init__(self, value):
        self.value = value


class TooMany(WebError):
    """There would be more leaves or inner kinds than a web may have."""


class NoWeb(WebError):
    """No web has this lot: word tells why, row by which row."""

    def __init__(self, word, row):
        self.word = word
        self.row = row


class NoLink(WebError):
    """There is no such link, or none into a mixing."""

    def __init__(self, parent, child):
        self.parent = parent
        self.child = child


class BadGraft(WebError):
    """The link can't be put in: word tells why."""

    def __init__(self, word):
        self.word = word


class BadWeb(WebError):
    """This is no web: error tells why."""

    def __init__(self, error):
        self.error = error


class BadNames(WebError):
    """The names are not each leaf's number once."""

    def __init__(self, names):
        self.names = names


class NoKind(WebError):
    """The web has no such kind."""

    def __init__(self, kind):
        self.kind = kind


class Full(WebError):
    """As many deeds stand as a garden may keep."""


class NothingDone(WebError):
    """No deed stands that could be undone."""


class NothingUndone(WebError):
    """No deed was undone that could be done again."""


class NoVersion(WebError):
    """The garden has no such version."""

    def __init__(self, value):
        self.value = value


class NoWatch(WebError):
    """The garden has no watch with this number."""

    def __init__(self, number):
        self.number = number


class BadText(WebError):
    """The value is no text of a web: place tells how much of it could begin one."""

    def __init__(self, place):
        self.place = place


class BadName(WebError):
    """The mixing with this number is not written out just once, or comes just once."""

    def __init__(self, number):
        self.number = number
