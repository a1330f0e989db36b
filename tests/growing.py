"""Programs that are grown by chance, always the same ones for the same seed, for the tests that
compare many programs with a meaning that is counted in another way.
"""

import itertools
import random
from fractions import Fraction

from tests.plainly import holds, names_of, pair, range_of, ranges_of, read

OPERATORS = ("+", "-", "*", "min", "max", "=", "/=", "<", "<=", ">", ">=", "and", "or")
RELATIONS = ("=", "/=", "<", "<=", ">", ">=")


def words(chance, names, depth):
    """The words of an expression over some names."""
    if depth == 0 or chance.random() < 0.2:
        return [chance.choice(names)] if chance.random() < 0.7 else [str(chance.randint(-9, 9))]
    kind = chance.random()
    if kind < 0.6:
        operator = chance.choice(OPERATORS)
        return [operator] + words(chance, names, depth - 1) + words(chance, names, depth - 1)
    if kind < 0.75:
        operator = chance.choice(("mod", "div"))
        return [operator] + words(chance, names, depth - 1) + [str(chance.randint(1, 9))]
    if kind < 0.85:
        return ["not"] + words(chance, names, depth - 1)
    return ["if"] + [word for _ in range(3) for word in words(chance, names, depth - 1)]


def is_value(x):
    """Whether a fraction of Python is a value."""
    return -99 <= x <= 99 and x.denominator <= 9999


def relation(chance, left, right):
    """One of the six signs, or ascending pairs of values of two ranges."""
    if chance.random() < 0.6:
        return chance.choice(RELATIONS)
    share = chance.choice((0.0, 0.2, 0.5, 1.0))
    return tuple((pair(a), pair(b)) for a, b in itertools.product(left, right)
                 if chance.random() < share)


def line(chance, name, ranges, n):
    """A line that can stand behind the names of some ranges."""
    while True:
        names = list(ranges)
        kind = chance.choice(("be", "table", "first", "last", "count", "mean"))
        y, k, q = (chance.choice(names) for _ in range(3))
        if kind == "be":
            tried = ("be", name, tuple(words(chance, names, chance.randint(0, 3))))
            used = names_of(tried)
        elif kind == "table":
            used = chance.sample(names, chance.randint(0, min(3, len(names))))
            rows = len(list(itertools.product(*[ranges[other] for other in used])))
            some = [Fraction(chance.randint(-6, 6), chance.randint(1, 3)) for _ in range(4)]
            tried = ("table", name, tuple(used),
                     tuple(pair(chance.choice(some)) for _ in range(min(rows, 400))))
        elif kind == "count":
            used = [k, q]
            tried = ("count", name, k, relation(chance, ranges[k], ranges[q]), q)
        else:
            used = [k, q]
            tried = (kind, name, y, k, relation(chance, ranges[k], ranges[q]), q,
                     chance.randint(-3, 3))
        if kind == "mean" and (len(ranges[y]) > 4 or any(x.denominator > 1 for x in ranges[y])):
            continue
        if can_stand(tried, used, ranges, n):
            return tried


def can_stand(tried, used, ranges, n):
    """Whether a line keeps to the sizes of [12], for the names whose ranges it runs through."""
    product = 1
    for name in used:
        product *= len(ranges[name])
    if len(tried) == 3 and len(tried[2]) > 30 or len(set(used)) > 3 or product > 400:
        return False
    if tried[0] == "be":
        rows = itertools.product(*[ranges[name] for name in used])
        if not all(is_value(read(tried[2], dict(zip(used, row)))[0]) for row in rows):
            return False
    return len(range_of(tried, ranges, n)) <= 40


def grown(seed, signs, n, many):
    """The lines of a program that can stand, and its told name, the last line's."""
    chance = random.Random(seed)
    lines = []
    ranges = ranges_of(signs, n, [])
    for at in range(many):
        name = f"x{at}" if at % 2 else f"y{at}"
        lines.append(line(chance, name, ranges, n))
        ranges[name] = range_of(lines[-1], ranges, n)
    return lines, lines[-1][1] if lines else "sign"


def found(line, values, at):
    """The places that a look finds from a place, for the values of its names."""
    k, asked, q = line[2:5] if line[0] == "count" else line[3:6]
    return [u for u in range(len(values["sign"])) if holds(asked, values[k][u], values[q][at])]
