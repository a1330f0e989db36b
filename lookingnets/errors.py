"""The errors of the package; each keeps what it was created with.

An error forms no message of its own from what it keeps: this may be of any
kind, also a number that is too long for Python to write it out.
"""


class NetError(ValueError):
    """The base of the errors about what cannot stand or does not fit."""


class Missing(LookupError):
    """The base of the errors about what is not there."""


class Full(RuntimeError):
    """The base of the errors about what is too much."""


class BadValue(NetError):
    """A value that cannot stand where it was passed."""

    def __init__(self, value):
        self.value = value
        self.code = "BadValue"


class BadLine(NetError):
    """A line of a program that cannot stand."""

    def __init__(self, line, why):
        self.line = line
        self.why = why
        self.code = "BadLine"


class NoText(NetError):
    """No text of signs; at is -1, or the index of what is no sign."""

    def __init__(self, at):
        self.at = at
        self.code = "NoText"


class TooLong(NetError):
    """A text of signs that has too many places."""

    def __init__(self, length):
        self.length = length
        self.code = "TooLong"


class BadNet(NetError):
    """A part of a net that cannot stand."""

    def __init__(self, where):
        self.where = where
        self.code = "BadNet"


class BadText(NetError):
    """A line in the text of a net or a chart that cannot stand."""

    def __init__(self, line):
        self.line = line
        self.code = "BadText"


class BadChart(NetError):
    """A part of a chart that cannot stand."""

    def __init__(self, where):
        self.where = where
        self.code = "BadChart"


class Broken(NetError):
    """The first line of a program that a judge does not accept."""

    def __init__(self, line, word):
        self.line = line
        self.word = word
        self.code = "Broken"


class BadChange(NetError):
    """A change that cannot be made."""

    def __init__(self, what):
        self.what = what
        self.code = "BadChange"


class BadPair(NetError):
    """Two that do not go together."""

    def __init__(self, what):
        self.what = what
        self.code = "BadPair"


class BadDeed(NetError):
    """A value that is no deed of a bench."""

    def __init__(self, at):
        self.at = at
        self.code = "BadDeed"


class Twice(NetError):
    """A name that is in use already."""

    def __init__(self, name):
        self.name = name
        self.code = "Twice"


class NoName(Missing):
    """A name that is not there."""

    def __init__(self, name):
        self.name = name
        self.code = "NoName"


class TooMany(Full):
    """More than there may be."""

    def __init__(self, what, count):
        self.what = what
        self.count = count
        self.code = "TooMany"


class NothingLeft(IndexError):
    """Nothing is left to do, or to take back."""

    def __init__(self):
        self.code = "NothingLeft"
