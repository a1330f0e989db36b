"""Fractions: tuples (p, q) of two numbers in lowest terms with q at least 1."""

from math import gcd

from lookingnets.errors import BadValue

ZERO = (0, 1)
ONE = (1, 1)
FIGURES = "0123456789"


def is_number(value):
    """Whether any value is a number."""
    return isinstance(value, int) and not isinstance(value, bool)


def is_fraction(value):
    """Whether any value is a fraction."""
    if not isinstance(value, tuple) or len(value) != 2:
        return False
    p, q = value
    return is_number(p) and is_number(q) and q >= 1 and gcd(p, q) == 1


def is_value(value):
    """Whether any value is a fraction from -99 to 99 with q at most 9999."""
    if not is_fraction(value):
        return False
    p, q = value
    return q <= 9999 and abs(p) <= 99 * q


def fraction(p, q=1):
    """The fraction p divided by q."""
    if not is_number(q) or q == 0:
        raise BadValue(q)
    divisor = gcd(p, q)
    if q < 0:
        divisor = -divisor
    return (p // divisor, q // divisor)


def plus(a, b):
    """The sum of two fractions."""
    return fraction(a[0] * b[1] + b[0] * a[1], a[1] * b[1])


def minus(a, b):
    """The first fraction less the second one."""
    return fraction(a[0] * b[1] - b[0] * a[1], a[1] * b[1])


def times(a, b):
    """The product of two fractions."""
    return fraction(a[0] * b[0], a[1] * b[1])


def quotient(a, b):
    """The first fraction divided by the second one."""
    if not is_fraction(b) or b == ZERO:
        raise BadValue(b)
    return fraction(a[0] * b[1], a[1] * b[0])


def below(a, b):
    """Whether the first fraction is less than the second one."""
    return a[0] * b[1] < b[0] * a[1]


def floor_of(a):
    """The whole part below a fraction, a number."""
    return a[0] // a[1]


def merged(low, high):
    """The ascending tuple of the fractions of two ascending tuples."""
    out = []
    i = 0
    j = 0
    while i < len(low) and j < len(high):
        if low[i] == high[j]:
            i += 1
        elif below(low[i], high[j]):
            out.append(low[i])
            i += 1
        else:
            out.append(high[j])
            j += 1
    return tuple(out) + low[i:] + high[j:]


def ascending(values):
    """The ascending tuple of a list of fractions, each once."""
    # Merged by pairs, since no key of a single fraction orders it by its worth.
    if len(values) < 2:
        return tuple(values)
    half = len(values) // 2
    return merged(ascending(values[:half]), ascending(values[half:]))


def mean_of(values):
    """The mean of a list of fractions."""
    if len(values) == 0:
        raise BadValue(())
    total = ZERO
    for value in values:
        total = plus(total, value)
    return quotient(total, (len(values), 1))


def value_text(value):
    """The text of a fraction."""
    if not is_fraction(value):
        raise BadValue(value)
    p, q = value
    if abs(p) >= 10 ** 60 or q >= 10 ** 60:
        raise BadValue(value)
    return str(p) if q == 1 else f"{p}/{q}"


def read_number(word):
    """The number that a string writes out; None if it is none, or one without a text."""
    figures = word[1:] if word.startswith("-") else word
    # The length comes first: Python itself refuses to read numbers of thousands of figures.
    if not 1 <= len(figures) <= 60 or not all([sign in FIGURES for sign in figures]):
        return None
    number = int(word)
    return number if str(number) == word else None


def read_value(text):
    """The fraction with a text; None for any value that is none."""
    if not isinstance(text, str):
        return None
    top, bar, bottom = text.partition("/")
    value = (read_number(top), read_number(bottom) if bar else 1)
    if not is_fraction(value) or value_text(value) != text:
        return None
    return value
