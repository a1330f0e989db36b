"""Nets that are run in another way than the program does: with Python's own fractions, straight from
the words of [19]; and nets that are grown by chance, always the same ones for the same seed.

A net is, here, the dict of the arguments of its constructor.
"""

import random
from fractions import Fraction

from tests.plainly import pair, worth

# Made by hand from [21] to [26] for `let c count where sign = sign` with two signs and four places.
LIKE_ME = """net 2 4 14
rest 0:1 1:1
sign 0 0:1 2:1
sign 1 0:1 3:1
place 0 4:1
place 1 5:1
place 2 6:1
place 3 7:1
heads
head 0,1:1 2,2:1 3,3:1 > 8,1:1
bend
unit 4/5 1:-5 8:1 > 13:1
unit -1/5 1:-5 8:1 > 12:20 13:-21
unit -1/4 1:-5 8:1 > 11:12 12:-32 13:20
unit -1/3 1:-5 8:1 > 10:6 11:-18 12:12
unit -1/2 1:-5 8:1 > 9:2 10:-8 11:6
unit -1 1:-5 8:1 > 9:-3 10:2
unit -2 1:-5 8:1 > 9:1
end
"""


def row_of(width, *several):
    """The row with the sums of some entries."""
    row = [Fraction(0)] * width
    for entries in several:
        for column, factor in entries:
            row[column] += worth(factor)
    return row


def begin(net, text):
    """The rows before the first stage, lists of fractions of Python."""
    rows = [row_of(net["width"], net["rest"])]
    for at, sign in enumerate(text):
        rows.append(row_of(net["width"], net["sign_rows"][sign], net["place_rows"][at]))
    return rows


def score_list(rows, head, at):
    """The scores of a head from a row to each row."""
    return [sum((rows[at][here] * row[there] * worth(factor) for here, there, factor in head[0]),
                Fraction(0)) for row in rows]


def looked(rows, head, at):
    """The indexes of the rows that are looked at."""
    found = score_list(rows, head, at)
    return [index for index in range(len(rows)) if found[index] == max(found)]


def heads_stage(rows, heads):
    """The rows behind a heads stage."""
    new = [list(row) for row in rows]
    for head in heads:
        for at in range(len(rows)):
            seen = looked(rows, head, at)
            for to, source, factor in head[1]:
                mean = sum(rows[index][source] for index in seen) / len(seen)
                new[at][to] += worth(factor) * mean
    return new


def bend_stage(rows, units):
    """The rows behind a bend."""
    new = [list(row) for row in rows]
    for terms, shift, givings in units:
        for at, row in enumerate(rows):
            z = worth(shift) + sum(row[column] * worth(factor) for column, factor in terms)
            for column, factor in givings:
                new[at][column] += max(z, 0) * worth(factor)
    return new


def all_rows(net, text):
    """The lists of the rows before the first stage and behind each one."""
    found = [begin(net, text)]
    for kind, parts in net["stages"]:
        done = heads_stage if kind == "heads" else bend_stage
        found.append(done(found[-1], parts))
    return found


def told(rows):
    """The list of the rows as tuples of tuples."""
    return [tuple(pair(x) for x in row) for row in rows]


def some_fraction(chance):
    """A small fraction, sometimes 0."""
    return pair(Fraction(chance.randint(-3, 3), chance.choice((1, 1, 1, 2, 3))))


def items(chance, width, columns, most):
    """Some entries or triples, in any order; some agree in their columns or hold the factor 0."""
    return [tuple(chance.randrange(width) for _ in range(columns)) + (some_fraction(chance),)
            for _ in range(chance.randint(0, most))]


def part(chance, kind, width):
    """A head or a unit."""
    if kind == "heads":
        return (items(chance, width, 2, 8), items(chance, width, 2, 5))
    return (items(chance, width, 1, 5), some_fraction(chance), items(chance, width, 1, 4))


def grown_net(seed):
    """A net that is not in normal form."""
    chance = random.Random(seed)
    signs, n, width = chance.randint(2, 5), chance.randint(1, 8), chance.randint(1, 9)
    kinds = [chance.choice(("heads", "bend")) for _ in range(chance.randint(0, 5))]
    return {
        "signs": signs, "n": n, "width": width, "rest": items(chance, width, 1, 4),
        "sign_rows": [items(chance, width, 1, 4) for _ in range(signs)],
        "place_rows": [items(chance, width, 1, 4) for _ in range(n)],
        "stages": [(kind, [part(chance, kind, width) for _ in range(chance.randint(0, 3))])
                   for kind in kinds],
    }


def grown_text(seed, net):
    """A text for a net."""
    chance = random.Random(seed)
    return [chance.randrange(net["signs"]) for _ in range(chance.randint(1, net["n"]))]
