"""Edits: mixings struck and put in.

Webs are edited as drafts: dicts from each kind to the list of its children. The leaves of a draft
have their numbers, its other kinds any numbers.
"""

from wayrows.bounds import MAX_INNER
from wayrows.errors import BadGraft, NoLink
from wayrows.forms import form
from wayrows.integers import is_between
from wayrows.webs import beneath, children, is_mixing, links, mixings, root


def draft_of(web):
    """The draft of a web, with the kinds' own numbers."""
    return {kind: list(children(web, kind)) for kind in range(root(web) + 1)}


def web_of_draft(draft):
    """The form of the web that the draft is."""
    order = upward(draft)
    inner = [kind for kind in order if len(draft[kind]) > 0]
    numbers = {kind: kind for kind in order}
    leaves = len(order) - len(inner)
    for at, kind in enumerate(inner):
        numbers[kind] = leaves + at
    return form((leaves, tuple([tuple(sorted([numbers[child] for child in draft[kind]]))
                                for kind in inner])))


def upward(draft):
    """A list of the kinds of a draft, children first, without those above or on a ring."""
    waiting = {kind: len(draft[kind]) for kind in draft}
    uppers = {kind: [] for kind in draft}
    for kind in draft:
        for child in draft[kind]:
            uppers[child].append(kind)
    ready = [kind for kind in draft if waiting[kind] == 0]
    at = 0
    while at < len(ready):
        lower = ready[at]
        for kind in uppers[lower]:
            waiting[kind] = waiting[kind] - 1
            if waiting[kind] == 0:
                ready.append(kind)
        at = at + 1
    return ready


def struck(web, parent, child):
    """The form of the web without a link into a mixing; NoLink if there is no such link."""
    if not is_link(web, parent, child) or not is_mixing(web, child):
        raise NoLink(parent, child)
    draft = draft_of(web)
    draft[parent].remove(child)
    thin = thin_kind(draft)
    while thin is not None:
        below = draft.pop(thin)[0]
        for kind in list(draft):
            put_for_child(draft, kind, thin, below)
        thin = thin_kind(draft)
    return web_of_draft(draft)


def is_link(web, parent, child):
    """Whether two values are a kind of the web and a child of it."""
    if not is_between(parent, 0, root(web)) or not is_between(child, 0, root(web)):
        return False
    return child in children(web, parent)


def thin_kind(draft):
    """A kind with one child and at most one parent; None if there is none."""
    found = [child for kind in draft for child in draft[kind]]
    for kind in draft:
        if len(draft[kind]) == 1 and found.count(kind) < 2:
            return kind
    return None


def put_for_child(draft, kind, child, other):
    """Puts another child in the place of one of a kind, if that is one of its children."""
    draft[kind] = [other if lower == child else lower for lower in draft[kind]]


def grafted(web, begin, end):
    """The form of the web with a link more, from the spot begin to the spot end; or BadGraft."""
    if not is_begin(web, begin):
        raise BadGraft("begin")
    if not is_end(web, end):
        raise BadGraft("end")
    word = clash(web, mixings(web), beneath(web, end[-1]), begin, end)
    if word is not None:
        raise BadGraft(word)
    return put_in(web, begin, end)


def spots(web):
    """The ascending tuple of all pairs (begin, end) of spots for which grafted raises nothing."""
    mixed = mixings(web)
    found = links(web)
    inner = range(web[0], root(web) + 1)
    between = [("on",) + link for link in found]
    begins = [("in", kind) for kind in inner if kind not in mixed] + between + [("over",)]
    ends = [("in", kind) for kind in mixed]
    ends = ends + [("on",) + link for link in found if link[1] not in mixed]
    below = [beneath(web, kind) for kind in range(root(web) + 1)]
    return tuple([(begin, end) for begin in begins for end in ends
                  if clash(web, mixed, below[end[-1]], begin, end) is None])


def neighbours(web):
    """The ascending tuple of all forms that struck and grafted tell of the web."""
    mixed = mixings(web)
    fewer = [struck(web, parent, child) for parent, child in links(web) if child in mixed]
    return tuple(sorted(set(fewer + [put_in(web, begin, end) for begin, end in spots(web)])))


def is_begin(web, value):
    """Whether value is a spot from which a link may go out."""
    if is_in_spot(web, value):
        return not is_mixing(web, value[1])
    return is_on_spot(web, value) or value == ("over",)


def is_end(web, value):
    """Whether value is a spot to which a link may go."""
    if is_in_spot(web, value):
        return is_mixing(web, value[1])
    return is_on_spot(web, value) and not is_mixing(web, value[2])


def is_in_spot(web, value):
    """Whether value is ("in", kind) with a kind that is no leaf."""
    if not isinstance(value, tuple) or len(value) != 2:
        return False
    return value[0] == "in" and is_between(value[1], web[0], root(web))


def is_on_spot(web, value):
    """Whether value is ("on", parent, child) with a link."""
    if not isinstance(value, tuple) or len(value) != 3:
        return False
    return value[0] == "on" and is_link(web, value[1], value[2])


def clash(web, mixed, below, begin, end):
    """The first word by which a link can't go from begin to end, spots as told; None if it can.

    The web's mixings are mixed, and the kinds beneath the last kind of end are below."""
    if begin == end:
        return "same"
    # A new kind in a link is come to by the link's parent alone, and leads to its child alone.
    if begin[0] != "over" and (begin[1] == end[-1] or begin[1] in below):
        return "ring"
    if is_twice(web, begin, end):
        return "twice"
    if is_bare(web, mixed, begin, end):
        return "bare"
    added = [spot for spot in (begin, end) if spot[0] != "in"]
    if len(web[1]) + len(added) > MAX_INNER:
        return "kinds"
    return None


def is_twice(web, begin, end):
    """Whether a link from begin to end would be there twice."""
    if begin[0] == "in" and end[0] == "in":
        return end[1] in children(web, begin[1])
    if begin[0] == "in":
        return begin[1] == end[1]
    return begin[0] == "on" and end[0] == "in" and begin[2] == end[1]


def is_bare(web, mixed, begin, end):
    """Whether a link from begin to end would leave a kind with children but no plain one."""
    if begin[0] == "on" and begin[2] in mixed:
        return True
    if end[0] == "in":
        return False
    return len([child for child in children(web, end[1]) if child not in mixed]) == 1


def put_in(web, begin, end):
    """The form of the web with a link more, from begin to end, where nothing clashes."""
    draft = draft_of(web)
    upper = kind_at(draft, begin)
    lower = kind_at(draft, end)
    draft[upper].append(lower)
    return web_of_draft(draft)


def kind_at(draft, spot):
    """The kind at a spot of a draft; a new one is put in where the spot is no kind."""
    if spot[0] == "in":
        return spot[1]
    new = len(draft)
    if spot[0] == "on":
        put_for_child(draft, spot[1], spot[2], new)
        draft[new] = [spot[2]]
    else:
        # Over the root begins a link, so no kind is put in ahead of this one.
        draft[new] = [new - 1]
    return new
