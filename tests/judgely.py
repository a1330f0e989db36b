"""A second judge, which follows the words of [29] to [31] with Python's own fractions; and nets and
charts that are changed by chance.

Nets and charts are, here, the dicts of makely.
"""

import itertools
from fractions import Fraction

from tests import plainly
from tests.plainly import pair, worth


class Judge:
    """All tests for a program, a net and a chart."""

    def __init__(self, signs, n, lines, net, chart):
        self.signs, self.n, self.lines = signs, n, lines
        self.net, self.chart = net, chart
        self.stages, self.width = net["stages"], net["width"]
        self.one, self.rest = chart["one"], chart["rest"]
        self.ranges = plainly.ranges_of(signs, n, lines)
        self.columns = {name: {worth(value): column for value, column in pairs}
                        for name, pairs, _ in chart["names"]}
        self.stage = {name: stage for name, _, stage in chart["names"]}
        self.looks = {look[0]: look[1:] for look in chart["looks"]}

    def kind(self, stage):
        """The kind of a stage, or None if there is no such stage."""
        return self.stages[stage][0] if 0 <= stage < len(self.stages) else None

    def verdict(self):
        """None, or the pair of the line and the word of the first test that fails."""
        for line, word, test in self.tests():
            if not test():
                return (line, word)
        return None

    def tests(self):
        """The triples of a line, a word and a test, in order."""
        lines = list(enumerate(self.lines, 1))
        for word, first, then in [("shape", self.shape, self.line_shape), ("given", self.given, self.line_given),
                                  ("stays", self.stays, self.line_stays), ("order", None, self.order)]:
            if first:
                yield 0, word, first
            for number, line in lines:
                yield number, word, lambda: then(line)
        for number, line in lines:
            if plainly.is_look(line[1], self.lines):
                yield from self.look_tests(number, line)
            else:
                yield number, "reads", lambda: self.expression_reads(line)
                yield number, "values", lambda: self.expression_values(line)
                yield number, "rest", lambda: not any(self.sums(line[1], {self.one: 1, self.rest: 1}).values())

    def below_width(self, columns):
        return max(columns, default=0) < self.width

    def shape(self):
        known = {"sign", "place"} | {line[1] for line in self.lines}
        return (
            self.net["signs"] == self.signs and self.net["n"] == self.n and set(self.columns) <= known
            and all(given in self.columns and self.stage[given] == -1 and given not in self.looks
                    and set(self.ranges[given]) <= set(self.columns[given])
                    and self.below_width(self.columns[given].values()) for given in ("sign", "place"))
            and self.below_width([self.one, self.rest]))

    def line_shape(self, line):
        name = line[1]
        if name not in self.columns or self.kind(self.stage[name]) != "bend":
            return False
        if not set(self.ranges[name]) <= set(self.columns[name]):
            return False
        if not self.below_width(self.columns[name].values()):
            return False
        if (name in self.looks) != plainly.is_look(name, self.lines):
            return False
        if name not in self.looks:
            return True
        stage, head, scratch = self.looks[name]
        return (self.kind(stage) == "heads" and head < len(self.stages[stage][1])
                and self.below_width(scratch))

    def held(self, column, place):
        """What a column holds at first, at the resting place (None) or for a sign and a place."""
        rows = [self.net["rest"]]
        if place is not None:
            rows = [self.net["sign_rows"][place[0]], self.net["place_rows"][place[1]]]
        return sum(worth(factor) for row in rows for at, factor in row if at == column)

    def everywhere(self):
        return [None] + list(itertools.product(range(self.signs), range(self.n)))

    def given(self):
        for place in self.everywhere():
            if self.held(self.one, place) != 1 or self.held(self.rest, place) != (place is None):
                return False
            for given, at in (("sign", 0), ("place", 1)):
                for value, column in self.columns[given].items():
                    if self.held(column, place) != (place is not None and place[at] == value):
                        return False
        return True

    def line_given(self, line):
        columns = list(self.columns[line[1]].values()) + list(self.looks.get(line[1], [0, 0, ()])[2])
        return all(self.held(column, place) == 0 for column in columns for place in self.everywhere())

    def writers(self, column):
        """The set of the triples of the index of a stage, its kind and the index of a part of it that
        gives to a column.
        """
        return {(at, kind, index) for at, (kind, parts) in enumerate(self.stages)
                for index, part in enumerate(parts) if column in [giving[0] for giving in part[-1]]}

    def stays(self):
        columns = [self.one, self.rest, *self.columns["sign"].values(), *self.columns["place"].values()]
        return not any(self.writers(column) for column in columns)

    def line_stays(self, line):
        name = line[1]
        for column in self.columns[name].values():
            if any(at != self.stage[name] for at, _, _ in self.writers(column)):
                return False
        if name in self.looks:
            stage, head, scratch = self.looks[name]
            return all(self.writers(column) <= {(stage, "heads", head)} for column in scratch)
        return True

    def names(self, line):
        return plainly.direct(line[1], self.lines)

    def order(self, line):
        last = self.stage[line[1]]
        if line[1] in self.looks:
            look = self.looks[line[1]][0]
            if not look < last:
                return False
            last = look
        return all(self.stage[name] < last for name in self.names(line))

    def served(self, name):
        """The units that serve a name."""
        columns = set(self.columns[name].values())
        return [unit for unit in self.stages[self.stage[name]][1] if columns & {at for at, _ in unit[2]}]

    def sums(self, name, contents):
        """The dict from the values of a name to the sums given to their columns."""
        found = {value: Fraction(0) for value in self.columns[name]}
        for terms, shift, givings in self.served(name):
            z = worth(shift) + sum(contents.get(at, 0) * worth(factor) for at, factor in terms)
            for value, column in self.columns[name].items():
                found[value] += max(z, 0) * sum(worth(factor) for at, factor in givings if at == column)
        return found

    def gives(self, name, contents, value):
        """Whether the sums given by some contents are 1 to a value's column and 0 to the others."""
        return self.sums(name, {**contents, self.one: 1}) == {
            other: int(other == value) for other in self.columns[name]}

    def reads_only(self, name, columns):
        return {at for terms, _, _ in self.served(name) for at, _ in terms} <= {*columns, self.one, self.rest}

    def expression_reads(self, line):
        return self.reads_only(line[1], [column for name in self.names(line)
                                         for column in self.columns[name].values()])

    def expression_values(self, line):
        names = self.names(line)
        for at, row in enumerate(itertools.product(*[self.ranges[name] for name in names])):
            due = plainly.read(line[2], dict(zip(names, row)))[0] if line[0] == "be" else worth(line[3][at])
            if not self.gives(line[1], {self.columns[name][x]: 1 for name, x in zip(names, row)}, due):
                return False
        return True

    def look_tests(self, number, line):
        """The own tests of a look."""
        kind = line[0]
        k, relation, q = line[2:5] if kind == "count" else line[3:6]
        stage, head, scratch = self.looks[line[1]]
        scores, givings = self.stages[stage][1][head]
        ends = {self.one, self.rest}

        def reads():
            heres = ends | set(self.columns[q].values())
            theres = ends | set(self.columns[k].values()) | set(self.columns["place"].values())
            sources = ends | (set() if kind == "count" else set(self.columns[line[2]].values()))
            return (all(here in heres and there in theres for here, there, _ in scores)
                    and all(to in scratch and source in sources for to, source, _ in givings)
                    and self.reads_only(line[1], scratch))

        def score(b, theres):
            return sum(worth(factor) for here, there, factor in scores
                       if here in (self.columns[q][b], self.one) and there in theres)

        def right_scores():
            for b in self.ranges[q]:
                possible = [(a, u) for a in self.ranges[k] for u in range(self.n) if k != "place" or a == u]
                found = [(u, plainly.holds(relation, a, b),
                          score(b, {self.columns[k][a], self.columns["place"][u], self.one}))
                         for a, u in possible]
                resting = score(b, {self.one, self.rest})
                for _, meant, s in found:
                    if not (s < resting if not meant else s == resting if kind == "count" else s > resting):
                        return False
                for (u, x, s), (w, y, other) in itertools.product(found, repeat=2):
                    if x and y and (kind == "first" and u < w and not s > other
                                    or kind == "last" and u < w and not s < other
                                    or kind == "mean" and s != other):
                        return False
            return True

        def sent(*sources):
            return [sum(worth(factor) for to, source, factor in givings if to == column and source in sources)
                    for column in scratch]

        def seen(v):
            return sent(self.columns[line[2]][v], self.one)

        def between(x):
            """The contents for x on the line through those of the least and the greatest value."""
            low, high = min(self.ranges[line[2]]), max(self.ranges[line[2]])
            share = (x - low) / (high - low) if low < high else Fraction(0)
            return [a + share * (b - a) for a, b in zip(seen(low), seen(high))]

        def cases():
            if kind == "count":
                some, none = sent(self.one), sent(self.one, self.rest)
                return [([(m * a + b) / Fraction(m + 1) for a, b in zip(some, none)], m)
                        for m in range(self.n + 1)]
            values = self.ranges[line[2]]
            found = [(seen(v), v) for v in values]
            if kind == "mean":
                found = [(between(x), x) for x in plainly.all_means(values, self.n)]
            return found + [(sent(self.one, self.rest), line[6])]

        def rests():
            contents = [sent(self.one, self.rest)]
            contents += [sent(self.one)] if kind == "count" else [seen(v) for v in self.ranges[line[2]]]
            greatest = {column: max(held[at] for held in contents) for at, column in enumerate(scratch)}
            least = {column: min(held[at] for held in contents) for at, column in enumerate(scratch)}
            for end in ends:
                greatest[end] = least[end] = Fraction(1)
            return all(worth(shift) + sum(max(worth(factor) * greatest[at], worth(factor) * least[at])
                                          for at, factor in terms) <= 0
                       for terms, shift, _ in self.served(line[1]))

        yield number, "reads", reads
        yield number, "scores", right_scores
        if kind == "mean":
            yield number, "straight", lambda: all(between(v) == seen(v) for v in self.ranges[line[2]])
        yield number, "values", lambda: all(self.gives(line[1], dict(zip(scratch, held)), value)
                                            for held, value in cases())
        yield number, "rest", rests


FACTORS = [Fraction(p, q) for p in (-3, -2, -1, 1, 2, 3) for q in (1, 2)]


def changed_items(chance, items, columns):
    """Entries or triples with one that is put in, left out or changed; not in normal form."""
    items = list(items)
    deed = chance.randrange(4)
    if items and deed == 0:
        items.pop(chance.randrange(len(items)))
    elif items and deed < 3:
        at = chance.randrange(len(items))
        factor = chance.choice((worth(items[at][-1]) * chance.choice(FACTORS),
                                worth(items[at][-1]) + chance.choice(FACTORS)))
        items[at] = items[at][:-1] + (pair(factor),)
    else:
        items.append(tuple(chance.choice(columns[at]) for at in range(len(columns)))
                     + (pair(chance.choice(FACTORS)),))
    return items


def changed_part(chance, kind, part, some):
    """A head or a unit with a change, for some columns that are put in."""
    part = list(part)
    at = chance.randrange(len(part))
    if kind == "heads":
        part[at] = changed_items(chance, part[at], [some, some])
    elif at == 1:
        part[1] = pair(worth(part[1]) + chance.choice(FACTORS))
    else:
        part[at] = changed_items(chance, part[at], [some])
    return tuple(part)


def changed_net(chance, net):
    """A net with a change by chance."""
    net = dict(net)
    some = list(range(net["width"]))
    stages = [(kind, list(parts)) for kind, parts in net["stages"]]
    deed = chance.randrange(12)
    at = chance.randrange(len(stages)) if stages else 0
    if deed == 0:
        net["rest"] = changed_items(chance, net["rest"], [some])
    elif deed == 1:
        rows = chance.choice(("sign_rows", "place_rows"))
        net[rows] = list(net[rows])
        row = chance.randrange(len(net[rows]))
        net[rows][row] = changed_items(chance, net[rows][row], [some])
    elif deed == 2:
        net["width"] += chance.randint(1, 3)
    elif deed == 3:
        stages.insert(chance.randint(0, len(stages)), (chance.choice(("heads", "bend")), []))
    elif stages and deed == 4:
        stages.insert(chance.randrange(len(stages)), stages.pop(at))
    elif stages and deed == 5 and stages[at][1]:
        parts = stages[at][1]
        chance.shuffle(parts)
        if chance.random() < 0.3:
            parts.pop()
    elif stages and stages[at][1]:
        part = chance.randrange(len(stages[at][1]))
        stages[at][1][part] = changed_part(chance, stages[at][0], stages[at][1][part], some)
    net["stages"] = stages
    return net


def changed_chart(chance, chart, width):
    """A chart with a change by chance; it may be none that can stand."""
    chart = {**chart, "names": list(chart["names"]), "looks": list(chart["looks"])}
    at = chance.randrange(len(chart["names"]))
    name, pairs, stage = chart["names"][at]
    deed = chance.randrange(9)
    if deed == 0:
        chart["names"][at] = (name, pairs, stage + chance.choice((-1, 1)))
    elif deed == 1 and pairs:
        chart["names"][at] = (name, chance.sample(pairs, len(pairs) - 1), stage)
    elif deed == 2:
        chart["names"][at] = (name, pairs + (((77, 1), width + chance.randint(-1, 1)),), stage)
    elif deed == 3:
        chart["names"].pop(at)
    elif deed == 4:
        chart["names"].append(("zz", (), 0))
    elif deed == 5:
        chart[chance.choice(("one", "rest"))] = width + chance.randint(-1, 1)
    elif deed == 6:
        chart["looks"].append((name, 0, 0, ()))
    elif deed == 7 and len(pairs) > 1:
        values = [value for value, _ in pairs]
        chance.shuffle(values)
        chart["names"][at] = (name, tuple(zip(values, [column for _, column in pairs])), stage)
    elif chart["looks"]:
        at = chance.randrange(len(chart["looks"]))
        name, stage, head, scratch = chart["looks"][at]
        chart["looks"][at] = chance.choice((
            (name, stage + chance.choice((-1, 1)), head, scratch), (name, stage, head + 1, scratch),
            (name, stage, head, scratch + (width + chance.randint(-1, 0),)), (name, stage, head, scratch[1:])))
        if chance.random() < 0.2:
            chart["looks"].pop(at)
    return chart


def reordered(chance, net, chart):
    """A net with its stages in another order, and a chart that follows them."""
    order = list(range(len(net["stages"])))
    chance.shuffle(order)
    new = {old: at for at, old in enumerate(order)} | {-1: -1}
    names = [(name, pairs, new.get(stage, stage)) for name, pairs, stage in chart["names"]]
    looks = [(name, new.get(stage, stage), head, scratch) for name, stage, head, scratch in chart["looks"]]
    return ({**net, "stages": [net["stages"][old] for old in order]},
            {**chart, "names": names, "looks": looks})
