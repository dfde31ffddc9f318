"""A garden: a web that is edited deed by deed, and watched."""

from wayrows.bounds import MAX_DEEDS
from wayrows.edits import grafted, struck
from wayrows.errors import (BadNames, BadWeb, Full, NoKind, NothingDone, NothingUndone, NoVersion,
                            NoWatch)
from wayrows.forms import form, renamed
from wayrows.integers import is_between, is_integer, is_integers
from wayrows.rows import rows_of
from wayrows.texts import web_text
from wayrows.webs import web_error


class Garden:
    """Keeps a web in its form, with the deeds done to it and those taken back."""

    def __init__(self, web):
        error = web_error(web)
        if error is not None:
            raise BadWeb(error)
        # The webs at all versions, the last being the one kept, and those taken back.
        self._webs = [form(web)]
        self._undone = []
        self._watches = {}
        self._many_watches = 0
        self._look()

    def _look(self):
        """Looks at the last web, so that what is asked of it is there."""
        self._web = self._webs[-1]
        self._rows = rows_of(self._web)
        self._lot = tuple(sorted(self._rows))

    @property
    def web(self):
        """The web, in its form."""
        return self._web

    @property
    def lot(self):
        """The lot of the web."""
        return self._lot

    @property
    def version(self):
        """How many deeds stand."""
        return len(self._webs) - 1

    def __len__(self):
        return len(self._rows)

    def __getitem__(self, at):
        if not is_between(at, 0, len(self._rows) - 1):
            raise NoKind(at)
        return self._rows[at]

    def __contains__(self, x):
        return is_integers(x, self._web[0]) and x in self._lot

    def __iter__(self):
        return iter(self._rows)

    def __eq__(self, other):
        return isinstance(other, Garden) and self._web == other._web

    def __str__(self):
        return str(web_text(self._web))

    def strike(self, parent, child):
        """Strikes a link into a mixing; the pair (gone, come) of rows, or NoLink."""
        self._check_room()
        return self._do(struck(self._web, parent, child))

    def graft(self, begin, end):
        """Puts in a link from one spot to another; the pair (gone, come) of rows, or BadGraft."""
        self._check_room()
        return self._do(grafted(self._web, begin, end))

    def rename(self, names):
        """Gives each leaf k the number names[k]; the pair (gone, come) of rows, or BadNames."""
        self._check_room()
        leaves = self._web[0]
        if not is_integers(names, leaves) or sorted(names) != list(range(leaves)):
            raise BadNames(names)
        return self._do(renamed(self._web, names))

    def undo(self):
        """Takes the last deed back that stands; the pair (gone, come) of rows, or NothingDone."""
        if len(self._webs) == 1:
            raise NothingDone()
        self._undone = self._undone + self._webs[-1:]
        return self._turn_to(self._webs[:-1])

    def redo(self):
        """Does the last deed taken back again; the pair (gone, come) of rows, or NothingUndone."""
        if len(self._undone) == 0:
            raise NothingUndone()
        again = self._undone[-1:]
        self._undone = self._undone[:-1]
        return self._turn_to(self._webs + again)

    def since(self, value):
        """The pair (gone, come) by which the lot differs from that when value deeds stood."""
        if not is_between(value, 0, len(self._webs) - 1):
            raise NoVersion(value)
        return parted(sorted(rows_of(self._webs[value])), self._lot)

    def watch(self, function):
        """Has function called behind each deed, undo and redo; the number of the watch."""
        number = self._many_watches
        self._many_watches = number + 1
        self._watches[number] = function
        return number

    def unwatch(self, number):
        """Ends the watch with this number; NoWatch if there is none."""
        if not is_integer(number) or number not in self._watches:
            raise NoWatch(number)
        self._watches.pop(number)

    def twin(self):
        """A garden with the same web and deeds, also those taken back, without watches."""
        other = Garden(self._webs[0])
        other._webs = list(self._webs)
        other._undone = list(self._undone)
        other._look()
        return other

    def _check_room(self):
        """Raises Full if as many deeds stand as may."""
        if len(self._webs) - 1 >= MAX_DEEDS:
            raise Full()

    def _do(self, web):
        """Does the deed that leads to this web; the pair (gone, come) of rows."""
        self._undone = []
        return self._turn_to(self._webs + [web])

    def _turn_to(self, webs):
        """Keeps other versions, and tells the watches; the pair (gone, come) of rows."""
        before = self._lot
        self._webs = webs
        self._look()
        gone, come = parted(before, self._lot)
        for function in list(self._watches.values()):
            function(self, gone, come)
        return (gone, come)


def parted(before, behind):
    """The pair of the rows that stand oftener in a lot than in one behind it, and the other way."""
    return (oftener(before, behind), oftener(behind, before))


def oftener(one, other):
    """The rows of a lot, in order, each as often as it stands oftener in it than in another one."""
    left = list(other)
    found = []
    for row in one:
        if row in left:
            left.remove(row)
        else:
            found.append(row)
    return tuple(found)
