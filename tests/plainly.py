"""Ranges and meanings of lines, counted in another way than the program does: with Python's own
fractions, straight from the words of [7], [10] and [11].
"""

import itertools
import math
from fractions import Fraction

TWO = {
    "+": lambda a, b: a + b, "-": lambda a, b: a - b, "*": lambda a, b: a * b, "min": min,
    "max": max, "=": lambda a, b: Fraction(a == b), "/=": lambda a, b: Fraction(a != b),
    "<": lambda a, b: Fraction(a < b), "<=": lambda a, b: Fraction(a <= b),
    ">": lambda a, b: Fraction(a > b), ">=": lambda a, b: Fraction(a >= b),
    "and": lambda a, b: Fraction(a != 0 and b != 0), "or": lambda a, b: Fraction(a != 0 or b != 0),
    "div": lambda a, b: Fraction(math.floor(a / b)),
    "mod": lambda a, b: a - b * math.floor(a / b),
}


def pair(x):
    """The tuple for a fraction of Python."""
    x = Fraction(x)
    return (x.numerator, x.denominator)


def pairs(xs):
    """The tuple of the tuples for fractions of Python."""
    return tuple(pair(x) for x in xs)


def worth(value):
    """The fraction of Python for a tuple."""
    return Fraction(value[0], value[1])


def read(words, values):
    """The value of the expression that the words begin with, and the words behind it."""
    word, rest = words[0], words[1:]
    if word in TWO:
        a, rest = read(rest, values)
        b, rest = read(rest, values)
        return TWO[word](a, b), rest
    if word == "not":
        a, rest = read(rest, values)
        return Fraction(a == 0), rest
    if word == "if":
        a, rest = read(rest, values)
        b, rest = read(rest, values)
        c, rest = read(rest, values)
        return (b if a != 0 else c), rest
    if word in values:
        return values[word], rest
    return Fraction(int(word)), rest


def holds(relation, a, b):
    """Whether two fractions of Python are in a relation."""
    if isinstance(relation, str):
        return TWO[relation](a, b) == 1
    return (pair(a), pair(b)) in relation


def names_of(line):
    """The different names of a be or table line, in order."""
    words = [word for word in line[2] if word in ("sign", "place") or (
        word[0].isalpha() and word not in TWO and word not in ("not", "if"))]
    return list(dict.fromkeys(words))


def all_means(values, n):
    """The means of 1 to n of some values, ascending."""
    return sorted({sum(some) / Fraction(many) for many in range(1, n + 1)
                   for some in itertools.combinations_with_replacement(values, many)})


def range_of(line, ranges, n):
    """The range of a line as a list of fractions of Python."""
    kind = line[0]
    if kind == "count":
        return [Fraction(many) for many in range(n + 1)]
    if kind == "table":
        return sorted({worth(value) for value in line[3]})
    if kind == "be":
        names = names_of(line)
        rows = itertools.product(*[ranges[name] for name in names])
        return sorted({read(line[2], dict(zip(names, row)))[0] for row in rows})
    values = all_means(ranges[line[2]], n) if kind == "mean" else ranges[line[2]]
    return sorted({*values, Fraction(line[6])})


def ranges_of(signs, n, lines):
    """The dict from all names to their ranges, lists of fractions of Python."""
    ranges = {"sign": [Fraction(s) for s in range(signs)],
              "place": [Fraction(u) for u in range(n)]}
    for line in lines:
        ranges[line[1]] = range_of(line, ranges, n)
    return ranges


def value_of(line, values, ranges, at):
    """The value of a line at a place, a fraction of Python."""
    kind = line[0]
    if kind == "be":
        return read(line[2], {name: values[name][at] for name in names_of(line)})[0]
    if kind == "table":
        index = 0
        for name in line[2]:
            index = index * len(ranges[name]) + ranges[name].index(values[name][at])
        return worth(line[3][index])
    k, relation, q = line[2:5] if kind == "count" else line[3:6]
    found = [u for u in range(len(values["sign"])) if holds(relation, values[k][u], values[q][at])]
    if kind == "count":
        return Fraction(len(found))
    seen = [values[line[2]][u] for u in found]
    if not seen:
        return Fraction(line[6])
    return {"first": seen[0], "last": seen[-1], "mean": sum(seen) / len(seen)}[kind]


def meaning(signs, n, lines, text):
    """The dict from all names to the lists of their values at the places of a text."""
    ranges = ranges_of(signs, n, lines)
    places = range(len(text))
    values = {"sign": [Fraction(s) for s in text], "place": [Fraction(u) for u in places]}
    for line in lines:
        values[line[1]] = [value_of(line, values, ranges, at) for at in places]
    return values


def texts(signs, n):
    """All texts, in the order of [36]."""
    return [text for length in range(1, n + 1)
            for text in itertools.product(range(signs), repeat=length)]


def direct(name, lines):
    """The names of the line that gives a name; none for a given name."""
    for line in lines:
        if line[1] == name:
            if line[0] == "be":
                return names_of(line)
            if line[0] == "table":
                return list(line[2])
            return [line[2], line[4]] if line[0] == "count" else [line[2], line[3], line[5]]
    return []


def behind(name, lines):
    """The set of the names on which a name hangs."""
    found = set(direct(name, lines))
    for other in direct(name, lines):
        found |= behind(other, lines)
    return found


def is_look(name, lines):
    """Whether a name is given by a look."""
    return any(line[1] == name and line[0] in ("first", "last", "count", "mean") for line in lines)


def layer(name, lines):
    """The greatest number of looks on a way from a name down to the given names, it counted."""
    ways = [layer(other, lines) for other in direct(name, lines)]
    return max(ways, default=0) + (1 if is_look(name, lines) else 0)


def step(name, lines):
    """The greatest number of lines on a way from a name down through names of its layer, as far as
    the first look; a given name counts nothing.
    """
    if name in ("sign", "place"):
        return 0
    if is_look(name, lines):
        return 1
    ways = [step(other, lines) for other in direct(name, lines)
            if layer(other, lines) == layer(name, lines)]
    return 1 + max(ways, default=0)
