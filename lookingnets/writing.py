"""Writing: texts that grow by the sign that is told at their last place."""

from lookingnets.errors import BadPair, BadValue, NothingLeft
from lookingnets.fittings import Fitting
from lookingnets.meaning import check_text
from lookingnets.plain import sign_of
from lookingnets.values import is_number

MOST_PUT = 40


def write(source, text, *, most=40):
    """The tuple of the signs of a text, and of those that a program or a fitting puts on."""
    program = source.program if isinstance(source, Fitting) else source
    check_text(text, program.signs, program.n)
    if not is_number(most) or not 0 <= most <= MOST_PUT:
        raise BadValue(most)
    written = tuple(text)
    for _ in range(min(most, program.n - len(written))):
        sign = sign_of(source(written)[-1], program.signs)
        if sign is None:
            return written
        written = written + (sign,)
    return written


def sign_behind(fitting, text):
    """The next sign of a text by a fitting; None if there is none."""
    return sign_of(fitting(text)[-1], fitting.program.signs)


class Writer:
    """A text that grows by a fitting."""

    def __init__(self, fitting, text):
        # The next sign is found whenever the text or the fitting changes, so that ended only reads.
        self._next = sign_behind(fitting, text)
        self.fitting = fitting
        self._text = tuple(text)
        self._start = len(text)

    def text(self):
        """The tuple of the signs."""
        return self._text

    @property
    def ended(self):
        """Whether no sign can be put on."""
        return self._next is None or len(self._text) == self.fitting.program.n

    def step(self):
        """Puts on the next sign, and returns it."""
        if self.ended:
            raise NothingLeft()
        sign = self._next
        self._text = self._text + (sign,)
        self._next = sign_behind(self.fitting, self._text)
        return sign

    def back(self):
        """Takes off the sign that was put on last, and returns it."""
        if len(self._text) == self._start:
            raise NothingLeft()
        sign = self._text[-1]
        self._text = self._text[:-1]
        # With another fitting the next sign may be another one than the sign that is taken off.
        self._next = sign_behind(self.fitting, self._text)
        return sign

    def use(self, fitting):
        """Goes on with another fitting."""
        if fitting.program.signs != self.fitting.program.signs:
            raise BadPair("signs")
        if fitting.program.n != self.fitting.program.n:
            raise BadPair("places")
        self.fitting = fitting
        self._next = sign_behind(fitting, self._text)

    def twin(self):
        """An independent writer in the same state."""
        other = Writer(self.fitting, self._text)
        other._start = self._start
        return other

    def __len__(self):
        return len(self._text[self._start:])

    def __bool__(self):
        return True

    def __repr__(self):
        return f"Writer({len(self._text)} signs)"
