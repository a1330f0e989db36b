"""The bench: fittings under names, the deeds that change them, and the history of these."""

from lookingnets.bills import Bill
from lookingnets.changes import (
    later, lifted, moved, parted, pruned, scaled, shifted, shortened,
)
from lookingnets.errors import BadDeed, NoName, NothingLeft, TooMany, Twice
from lookingnets.expressions import is_word_name
from lookingnets.fittings import make
from lookingnets.programs import Program

# How many items a deed has, and how many of them, behind the word, are names.
SIZES = {
    "put": (3, 1), "join": (4, 3), "copy": (3, 2), "drop": (2, 1), "moved": (3, 1),
    "scaled": (4, 1), "lifted": (5, 1), "shifted": (5, 1), "parted": (4, 1), "later": (3, 1),
    "pruned": (2, 1), "shortened": (3, 1),
}
PUTTING = ("put", "join", "copy")


def is_deed(value):
    """Whether any value is a deed."""
    if not isinstance(value, tuple) or len(value) == 0 or not isinstance(value[0], str):
        return False
    if value[0] not in SIZES:
        return False
    size, names = SIZES[value[0]]
    if len(value) != size or not all([is_word_name(name) for name in value[1:names + 1]]):
        return False
    return value[0] != "put" or isinstance(value[2], Program)


def check_deeds(deeds):
    """Raises an error unless any values are deeds."""
    for at, deed in enumerate(deeds):
        if not is_deed(deed):
            raise BadDeed(at)


def copied(value):
    """A copy of any value, with new lists."""
    if isinstance(value, list):
        return [copied(part) for part in value]
    if isinstance(value, tuple):
        return tuple([copied(part) for part in value])
    return value


def check_names(fittings, deed):
    """Raises an error unless the names of a deed fit the dict of the fittings."""
    word, name = deed[:2]
    needed = [name]
    if word in PUTTING:
        if name in fittings:
            raise Twice(name)
        needed = [] if word == "put" else list(deed[2:])
    for other in needed:
        if other not in fittings:
            raise NoName(other)
    if word in PUTTING and len(fittings) == Bench.MOST:
        raise TooMany("fittings", len(fittings) + 1)


def changed(fitting, word, parts):
    """The fitting that a change gives, for the word and the last items of its deed."""
    if word == "moved":
        return moved(fitting, parts[0])
    if word == "scaled":
        return scaled(fitting, parts[0], parts[1])
    if word == "lifted":
        return lifted(fitting, parts[0], parts[1], parts[2])
    if word == "shifted":
        return shifted(fitting, parts[0], parts[1], parts[2])
    if word == "parted":
        return parted(fitting, parts[0], parts[1])
    if word == "later":
        return later(fitting, parts[0])
    if word == "pruned":
        return pruned(fitting)
    return shortened(fitting, parts[0])


def fitting_done(fittings, deed):
    """The fitting that a deed, which is no drop, puts under its name."""
    word, name = deed[:2]
    if word == "put":
        return make(deed[2])
    if word == "join":
        return fittings[deed[2]].then(fittings[deed[3]])
    if word == "copy":
        return fittings[deed[2]]
    return changed(fittings[name], word, deed[2:])


def done_deed(fittings, deed):
    """The dict of the fittings behind a deed; the one ahead of it stays as it is."""
    check_names(fittings, deed)
    out = dict(fittings)
    if deed[0] == "drop":
        del out[deed[1]]
    else:
        out[deed[1]] = fitting_done(fittings, deed)
    return out


class Bench:
    """Fittings under word names, and the calls of deeds that stand or were taken back."""

    MOST = 8

    def __init__(self):
        self._fittings = {}
        # Each call is a pair: the tuple of its deeds, and the fittings on its other side.
        self._past = []
        self._future = []

    def do(self, *deeds):
        """Does deeds one behind the other, all or none."""
        check_deeds(deeds)
        fittings = self._fittings
        for deed in deeds:
            fittings = done_deed(fittings, deed)
        if len(deeds) > 0:
            self._past.append((copied(deeds), self._fittings))
            self._future = []
            self._fittings = fittings

    def tried(self, *deeds):
        """A twin of the bench on which deeds were done."""
        other = self.twin()
        other.do(*deeds)
        return other

    def undo(self):
        """Takes back the last call of do that stands, and returns the list of its deeds."""
        if len(self._past) == 0:
            raise NothingLeft()
        deeds, fittings = self._past.pop()
        self._future.append((deeds, self._fittings))
        self._fittings = fittings
        return list(copied(deeds))

    def redo(self):
        """Does again the call that was taken back last, and returns the list of its deeds."""
        if len(self._future) == 0:
            raise NothingLeft()
        deeds, fittings = self._future.pop()
        self._past.append((deeds, self._fittings))
        self._fittings = fittings
        return list(copied(deeds))

    def kept(self, name):
        """The fitting under a name."""
        if not self.has(name):
            raise NoName(name)
        return self._fittings[name]

    def has(self, name):
        """Whether any value is a name in use."""
        return isinstance(name, str) and name in self._fittings

    def names(self):
        """The ascending list of the names in use."""
        return sorted(self._fittings)

    def history(self):
        """The list of the lists of the deeds of the calls that stand."""
        return [list(copied(deeds)) for deeds, _ in self._past]

    def report(self):
        """The list of a line for each name, with the sizes of its net."""
        rows = []
        for name in self.names():
            bill = Bill.of_net(self._fittings[name].net)
            rows.append(f"{name} {bill.layers} {bill.heads} {bill.units} {bill.width}")
        return rows

    def twin(self):
        """An independent bench in the same state."""
        other = Bench()
        other._fittings = self._fittings
        other._past = list(self._past)
        other._future = list(self._future)
        return other

    def __len__(self):
        return len(self._fittings)

    def __bool__(self):
        return True

    def __repr__(self):
        return f"Bench({len(self._fittings)} fittings)"
