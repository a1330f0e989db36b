"""Fittings that are read back in another way than the program does, straight from the words of [35],
with Python's own fractions. A fitting is, here, the dict of changely.
"""

import itertools

from tests import plainly
from tests.judgely import Judge
from tests.plainly import pair, worth


class Reader:
    """What is read back from a fitting."""

    def __init__(self, some):
        self.n, self.chart, self.net = some["n"], some["chart"], some["net"]
        self.judge = Judge(some["signs"], some["n"], [], some["net"], some["chart"])
        self.ranges = plainly.ranges_of(some["signs"], some["n"], [])
        self.lines = []
        for stage, name in sorted((stage, name) for name, _, stage in self.chart["names"]):
            if name not in ("sign", "place"):
                line = self.look(name) if name in self.judge.looks else self.table(name)
                self.lines.append(line)
                self.ranges[name] = plainly.range_of(line, self.ranges, self.n)

    def column(self, name, value):
        return self.judge.columns[name][value]

    def read(self, columns):
        """The names that are read by some columns, ascending."""
        return [name for name in sorted(self.ranges)
                if {self.column(name, value) for value in self.ranges[name]} & set(columns)]

    def value(self, name, contents):
        """The value whose column gets the sum 1."""
        sums = self.judge.sums(name, {**contents, self.judge.one: 1})
        return next(value for value, x in sums.items() if x == 1)

    def table(self, name):
        names = self.read([at for terms, _, _ in self.judge.served(name) for at, _ in terms])
        return self.table_over(name, names, lambda row: self.value(
            name, {self.column(known, x): 1 for known, x in row.items()}))

    def table_over(self, name, names, value):
        rows = itertools.product(*[self.ranges[known] for known in names])
        return ("table", name, tuple(names), tuple(pair(value(dict(zip(names, row)))) for row in rows))

    def look(self, name):
        stage, head, scratch = self.judge.looks[name]
        scores, givings = self.net["stages"][stage][1][head]
        one, rest = self.judge.one, self.judge.rest
        q = next(iter(self.read([here for here, _, _ in scores])), "sign")
        k = next((known for known in self.read([there for _, there, _ in scores]) if known != "place"), "place")

        def score(b, *theres):
            return sum(worth(x) for here, there, x in scores
                       if here in (one, self.column(q, b)) and there in theres)

        def sent(*sources):
            return {column: sum(worth(x) for to, source, x in givings if to == column and source in sources)
                    for column in scratch}

        found = {}
        for a, b, u in itertools.product(self.ranges[k], self.ranges[q], range(self.n)):
            s = score(b, one, self.column(k, a), self.column("place", u))
            if (k != "place" or a == u) and s >= score(b, one, rest):
                found.setdefault(b, []).append((a, u, s))
        otherwise = self.value(name, sent(one, rest))
        if not found:
            return ("table", name, (), (pair(otherwise),))
        pairs = tuple((pair(a), pair(b)) for a in self.ranges[k] for b in self.ranges[q]
                      if a in [part[0] for part in found.get(b, [])])
        if all(s == score(b, one, rest) for b in found for _, _, s in found[b]):
            return ("count", name, k, pairs, q)
        turns = [(s, t) for some in found.values() for (_, u, s), (_, w, t) in itertools.product(some, repeat=2)
                 if u < w]
        kind = "first" if all(s > t for s, t in turns) else "last" if all(s < t for s, t in turns) else "mean"
        sources = self.read([source for _, source, _ in givings])
        if not sources:
            v = self.value(name, sent(one))
            sources = [known for known in sorted(self.ranges)
                       if self.judge.stage[known] < stage and self.ranges[known] == [v]]
        return (kind, name, sources[0], k, pairs, q, int(otherwise))

    def ordered(self):
        """The lines in the order of their depths, and the names of tables likewise."""
        def place(name):
            given = {"sign": (0, 0, ""), "place": (0, 0, "a")}
            return given.get(name) or (plainly.layer(name, self.lines), plainly.step(name, self.lines), name)

        found = []
        for line in sorted(self.lines, key=lambda line: place(line[1])):
            if line[0] == "table":
                rows = itertools.product(*[self.ranges[name] for name in line[2]])
                values = {frozenset(zip(line[2], row)): worth(value) for row, value in zip(rows, line[3])}
                line = self.table_over(line[1], sorted(line[2], key=place),
                                       lambda row: values[frozenset(row.items())])
            found.append(line)
        return found


def read_back(some):
    """The lines that are read back from a fitting."""
    return Reader(some).ordered()
