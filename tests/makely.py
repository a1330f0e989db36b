"""What a program is made into, counted in another way than the program does: with Python's own
fractions, straight from the words of [21] to [28].

A net is, here, the dict of the arguments of its constructor, with all parts in normal form, and a
chart the dict of the arguments of its own.
"""

import itertools
import math
from fractions import Fraction

from tests import plainly
from tests.plainly import pair, worth


def summed(items):
    """Entries or triples in normal form, for factors that are fractions of Python."""
    columns = sorted({item[:-1] for item in items})
    sums = [(column, sum(item[-1] for item in items if item[:-1] == column)) for column in columns]
    return tuple(column + (pair(x),) for column, x in sums if x != 0)


def unit(terms, shift, givings):
    """A unit in normal form."""
    return (summed(terms), pair(shift), summed(givings))


def peaks(points, scratch, rest):
    """The units of [26] for pairs of a fraction of Python and a column."""
    places = [points[0][0] - 1] + [point for point, _ in points] + [points[-1][0] + 1]
    steep = 3 + math.floor(places[-1] - places[0])
    units = []
    for i, place in enumerate(places):
        givings = []
        for j, (_, column) in enumerate(points, 1):
            up, down = 1 / (places[j] - places[j - 1]), 1 / (places[j + 1] - places[j])
            givings.append((column, {j - 1: up, j: -(up + down), j + 1: down}.get(i, Fraction(0))))
        units.append(unit([(scratch, 1), (rest, -steep)], -place, givings))
    return tuple(units)


class Made:
    """The columns, the stages and the units of a program."""

    def __init__(self, signs, n, lines):
        self.signs, self.n, self.lines = signs, n, lines
        self.ranges = plainly.ranges_of(signs, n, lines)
        self.columns, self.scratch = {}, {}
        self.width = 2
        for name in ["sign", "place"]:
            self.take(name)
        for line in lines:
            many = {"first": len(self.ranges[line[1]]), "last": len(self.ranges[line[1]]),
                    "count": 1, "mean": 1}.get(line[0], 0)
            self.scratch[line[1]] = list(range(self.width, self.width + many))
            self.width += many
            self.take(line[1])
        self.layers = {line[1]: plainly.layer(line[1], lines) for line in lines}
        self.steps = {line[1]: plainly.step(line[1], lines) for line in lines}
        # The stages in order: a layer and a step, or "heads" in the place of a step.
        self.order = []
        for layer in range(max(self.layers.values(), default=0) + 1):
            if layer:
                self.order.append((layer, "heads"))
            steps = [self.steps[name] for name in self.steps if self.layers[name] == layer]
            self.order += [(layer, step) for step in range(1, max(steps, default=0) + 1)]

    def take(self, name):
        """Takes the next columns for a name."""
        self.columns[name] = dict(zip(self.ranges[name], itertools.count(self.width)))
        self.width += len(self.ranges[name])

    def points(self, line):
        """The points of a count or a mean, ascending, each with its column."""
        columns = self.columns[line[1]]
        if line[0] == "count":
            points = [(Fraction(1, k + 1), columns[k]) for k in range(self.n + 1)]
        else:
            above = 1 - min(self.ranges[line[2]])
            points = [(m + above, columns[m]) for m in plainly.all_means(self.ranges[line[2]], self.n)]
            points.append((Fraction(0), columns[Fraction(line[6])]))
        return sorted(points)

    def units(self, line):
        """The units of a line."""
        own, scratch = self.columns[line[1]], self.scratch[line[1]]
        if line[0] in ("count", "mean"):
            return peaks(self.points(line), scratch[0], 1)
        if line[0] in ("first", "last"):
            return tuple(unit([(column, 1), (1, -2)], 0, [(own[x], 1)])
                         for x, column in zip(self.ranges[line[1]], scratch))
        names = plainly.names_of(line) if line[0] == "be" else line[2]
        units = []
        for at, row in enumerate(itertools.product(*[self.ranges[name] for name in names])):
            if line[0] == "be":
                x = plainly.read(line[2], dict(zip(names, row)))[0]
            else:
                x = worth(line[3][at])
            terms = [(self.columns[name][value], 1) for name, value in zip(names, row)] + [(1, -1)]
            units.append(unit(terms, 1 - len(names), [(own[x], 1)]))
        return tuple(units)

    def head(self, line):
        """The head of a look."""
        k, relation, q = line[2:5] if line[0] == "count" else line[3:6]
        weight = {"count": 1, "mean": 2}.get(line[0], 2 * self.n)
        scores = [(self.columns[q][b], self.columns[k][a], weight)
                  for a in self.ranges[k] for b in self.ranges[q] if plainly.holds(relation, a, b)]
        places = self.columns["place"]
        if line[0] == "first":
            scores += [(0, places[u], -u) for u in range(self.n)] + [(0, 1, self.n)]
        elif line[0] == "last":
            scores += [(0, places[u], u - self.n) for u in range(self.n)]
        else:
            scores.append((0, 1, 1))
        scratch = self.scratch[line[1]]
        if line[0] == "count":
            givings = [(scratch[0], 1, 1)]
        elif line[0] == "mean":
            above = 1 - min(self.ranges[line[2]])
            givings = [(scratch[0], column, v + above) for v, column in self.columns[line[2]].items()]
        else:
            held = dict(zip(self.ranges[line[1]], scratch))
            givings = [(held[v], column, 1) for v, column in self.columns[line[2]].items()]
            givings.append((held[Fraction(line[6])], 1, 1))
        return (summed(scores), summed(givings))

    def stage(self, layer, step):
        """A stage in normal form."""
        lines = [line for line in self.lines if self.layers[line[1]] == layer]
        if step == "heads":
            return ("heads", tuple(self.head(line) for line in lines if plainly.is_look(line[1], lines)))
        return ("bend", tuple(some for line in lines if self.steps[line[1]] == step
                              for some in self.units(line)))

    def net(self):
        """The made net."""
        signs, places = self.columns["sign"], self.columns["place"]
        one = (1, 1)
        return {
            "signs": self.signs, "n": self.n, "width": self.width, "rest": ((0, one), (1, one)),
            "sign_rows": tuple(((0, one), (signs[s], one)) for s in range(self.signs)),
            "place_rows": tuple(((places[u], one),) for u in range(self.n)),
            "stages": tuple(self.stage(*place) for place in self.order),
        }

    def chart(self):
        """The made chart, with its parts in order."""
        names, looks = [], []
        for name, columns in self.columns.items():
            stage = -1
            if name in self.layers:
                stage = self.order.index((self.layers[name], self.steps[name]))
            names.append((name, tuple((pair(x), column) for x, column in columns.items()), stage))
        for name in self.layers:
            if plainly.is_look(name, self.lines):
                layer = self.layers[name]
                beside = [line[1] for line in self.lines if self.layers[line[1]] == layer
                          and plainly.is_look(line[1], self.lines)]
                looks.append((name, self.order.index((layer, "heads")), beside.index(name),
                              tuple(self.scratch[name])))
        return {"one": 0, "rest": 1, "names": tuple(sorted(names)), "looks": tuple(sorted(looks))}


def parts_of(net):
    """The dict of the arguments of a net's constructor, of a net."""
    return {"signs": net.signs, "n": net.n, "width": net.width, "rest": net.rest_row(),
            "sign_rows": net.sign_rows(), "place_rows": net.place_rows(), "stages": net.stages()}


def chart_parts(chart):
    """The dict of the arguments of a chart's constructor, of a chart."""
    return {"one": chart.one, "rest": chart.rest, "names": chart.names(), "looks": chart.looks()}
