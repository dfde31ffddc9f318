"""Texts of webs: written in their form, and read in any."""

from wayrows.bounds import MAX_INNER, MAX_LEAVES
from wayrows.edits import upward, web_of_draft
from wayrows.errors import BadName, BadText, BadWeb
from wayrows.forms import form
from wayrows.webs import children, mixings, root

DIGITS = "0123456789"
MAX_DIGITS = 3


def web_text(web):
    """The text of the form of the web."""
    shape = form(web)
    text, _ = kind_text(shape, mixings(shape), root(shape), ())
    return text + ";"


def kind_text(web, mixed, kind, ahead):
    """The text of a kind behind that of the mixings ahead, and the mixings ahead of what follows."""
    if kind in ahead:
        return ("#" + str(ahead.index(kind)), ahead)
    if kind < web[0]:
        return (str(kind), ahead)
    texts = []
    come = ahead
    for child in children(web, kind):
        text, come = kind_text(web, mixed, child, come)
        texts.append(text)
    told = "(" + ",".join(texts) + ")"
    if kind not in mixed:
        return (told, come)
    # The number behind it: what is written out within comes ahead.
    return (told + "#" + str(len(come)), come + (kind,))


def read_web(value):
    """The form of the web whose text value is; BadText, BadName or BadWeb if it is none."""
    if not isinstance(value, str):
        raise BadText(-1)
    words = words_of(value)
    check_names(words)
    draft = draft_of_words(words)
    check_draft(draft, words)
    return web_of_draft(draft)


def words_of(text):
    """The words of a text, a list of pairs (sort, number); BadText if the signs are no text's.

    The sorts are "leaf", "(", ",", ")", ";", "#" for a mixing named and ")#" for one written out."""
    # A blank may stand nowhere, so it stops all that reads on where signs lack.
    signs = text + " "
    words = []
    # How many kinds have begun in each bracket that is open.
    counts = []
    at = 0
    sort = ""
    while sort != ";":
        if sort in ("", "(", ","):
            sort, number, at = kind_word(signs, at)
        else:
            sort, number, at = word_behind(signs, at, counts[-1] if len(counts) > 0 else 0)
        if sort == "(":
            counts.append(1)
        elif sort == ",":
            counts[-1] = counts[-1] + 1
        elif sort in (")", ")#"):
            counts.pop()
        words.append((sort, number))
    if at < len(text):
        raise BadText(at)
    return words


def kind_word(signs, at):
    """The word at a place where a kind begins, as (sort, number, the place behind it)."""
    if signs[at] in DIGITS[:MAX_LEAVES]:
        return ("leaf", int(signs[at]), at + 1)
    if signs[at] == "#":
        return name_word("#", signs, at + 1)
    if signs[at] == "(":
        return ("(", 0, at + 1)
    raise BadText(at)


def word_behind(signs, at, count):
    """The word at a place behind a kind, the one with this number in its bracket, as kind_word.

    The number is 0 if no bracket is open."""
    sign = signs[at]
    if (count == 0 and sign == ";") or (count > 0 and sign == ",") or (count > 1 and sign == ")"):
        return (sign, 0, at + 1)
    if count != 1 or sign != ")":
        raise BadText(at)
    # A bracket with one kind is that of a mixing, so its number has to follow.
    if signs[at + 1] != "#":
        raise BadText(at + 1)
    return name_word(")#", signs, at + 2)


def name_word(sort, signs, at):
    """The word of a sort that ends with the mixing's number at a place, as kind_word."""
    behind = at
    while signs[behind] in DIGITS and behind < at + MAX_DIGITS and signs[at:behind] != "0":
        behind = behind + 1
    if behind == at:
        raise BadText(at)
    return (sort, int(signs[at:behind]), behind)


def check_names(words):
    """Raises BadName with the first mixing that is written out twice, or not, or comes once."""
    written = times_of(words, (")#",))
    come = times_of(words, ("#", ")#"))
    done = {}
    for sort, number in words:
        if sort == ")#" and number in done:
            raise BadName(number)
        if sort == ")#":
            done[number] = True
        if sort in ("#", ")#") and (number not in written or come[number] == 1):
            raise BadName(number)


def times_of(words, sorts):
    """A dict that tells how often each number stands in words of some sorts."""
    times = {}
    for sort, number in words:
        if sort in sorts:
            times[number] = times.get(number, 0) + 1
    return times


def draft_of_words(words):
    """The draft that the words tell. A mixing with the number n is the kind MAX_LEAVES + n in it,
    and plain kinds with children have numbers below 0."""
    draft = {}
    # The children told by now in each bracket that is open, the first being the text's end.
    told = [[]]
    for sort, number in words:
        kind = number if sort == "leaf" else MAX_LEAVES + number
        if sort == "(":
            told.append([])
        if sort == "leaf":
            draft[kind] = []
        if sort == ")":
            kind = -1 - len(draft)
        if sort in (")", ")#"):
            draft[kind] = told.pop()
        if sort in ("leaf", "#", ")", ")#"):
            told[-1].append(kind)
    return draft


def check_draft(draft, words):
    """Raises BadWeb with the first word by which a draft of words is no web."""
    told = sorted([number for sort, number in words if sort == "leaf"])
    if len(upward(draft)) < len(draft):
        raise BadWeb("ring")
    if told != list(range(len(told))):
        raise BadWeb("leaves")
    below = [draft[kind] for kind in draft if len(draft[kind]) > 0]
    if len(below) > MAX_INNER:
        raise BadWeb("inner")
    if any([len(set(item)) < len(item) for item in below]):
        raise BadWeb("twice")
    if any([min(item) >= MAX_LEAVES for item in below]):
        raise BadWeb("bare")
