"""Reading back: the program that the net and the chart of a fitting bear."""

from lookingnets.charts import HeadSums, column_list
from lookingnets.expressions import GIVEN
from lookingnets.judging import are_scores_in_order, possible_places, served, sums_given
from lookingnets.programs import Program, given_ranges
from lookingnets.ranges import line_range, rows_of_values
from lookingnets.values import ONE, below


def names_to_read(chart):
    """The list of the own names of a chart, in the order in which their lines are read."""
    found = sorted([(entry[2], entry[0]) for entry in chart.names() if entry[0] not in GIVEN])
    return [name for _, name in found]


def names_among(chart, ranges, columns):
    """The ascending list of the names with a column, for a value of their ranges, among some."""
    read = {column: True for column in columns}
    found = []
    for name in sorted(ranges):
        if any([chart.column(name, value) in read for value in ranges[name]]):
            found.append(name)
    return found


def value_given(units, chart, name, contents):
    """The value of a name whose column gets the sum 1 from the units that serve it, for some contents
    beside 1 at one.
    """
    held = dict(contents)
    held[chart.one] = ONE
    sums = sums_given(units, column_list(chart, name), held)
    values = [pair[0] for pair, total in zip(chart.columns(name), sums) if total == ONE]
    return values[0]


def value_of_scratch(fitting, name, contents):
    """The value of a look's name whose column gets the sum 1 for some scratch contents."""
    chart = fitting.chart
    _, _, scratch = chart.look(name)
    return value_given(served(fitting.net, chart, name), chart, name, dict(zip(scratch, contents)))


def table_read(fitting, name, ranges):
    """The table that is read from an entry without look entry."""
    chart = fitting.chart
    units = served(fitting.net, chart, name)
    names = names_among(chart, ranges, [column for terms, _, _ in units for column, _ in terms])
    values = []
    for row in rows_of_values([ranges[known] for known in names]):
        contents = {chart.column(known, value): ONE for known, value in zip(names, row)}
        values.append(value_given(units, chart, name, contents))
    return ("table", name, tuple(names), tuple(values))


def found_scores(sums, key, ranges, b, n):
    """The list of the triples of a value of K, a place and the score of the pairs that a head finds
    for one b.
    """
    resting = sums.score_at_rest(b)
    found = []
    for a in ranges[key]:
        for u in possible_places(key, a, n):
            score = sums.score_at(b, a, u)
            if not below(score, resting):
                found.append((a, u, score))
    return found


def kind_found(sums, found):
    """The kind of a look, for the dict from each b to what found_scores gives."""
    if all([score == sums.score_at_rest(b) for b in found for _, _, score in found[b]]):
        return "count"
    for kind in ("first", "last"):
        fits = [are_scores_in_order(kind, [part[1:] for part in found[b]]) for b in found]
        if all(fits):
            return kind
    return "mean"


def name_seen(fitting, name, ranges, sums):
    """Y: the name that the head of a look gives from, or one that has the one value that it gives."""
    chart = fitting.chart
    stage, head, _ = chart.look(name)
    givings = fitting.net.stages()[stage][1][head][1]
    read = names_among(chart, ranges, [source for _, source, _ in givings])
    if len(read) == 0:
        value = value_of_scratch(fitting, name, sums.scratch_from([chart.one]))
        for known in sorted(ranges):
            if chart.stage(known) < stage and ranges[known] == (value,):
                read.append(known)
    return read[0]


def look_read(fitting, name, ranges):
    """The look that is read from a look entry; a table for one that finds nothing."""
    chart = fitting.chart
    stage, head, _ = chart.look(name)
    scores = fitting.net.stages()[stage][1][head][0]
    queries = names_among(chart, ranges, [here for here, _, _ in scores])
    theres = names_among(chart, ranges, [there for _, there, _ in scores])
    keys = [known for known in theres if known != "place"]
    query = (queries + ["sign"])[0]
    key = (keys + ["place"])[0]
    sums = HeadSums(fitting.net, chart, name, key, query)
    found = {b: found_scores(sums, key, ranges, b, fitting.net.n) for b in ranges[query]}
    pairs = tuple([
        (a, b) for a in ranges[key] for b in found if a in [part[0] for part in found[b]]
    ])
    otherwise = value_of_scratch(fitting, name, sums.scratch_from([chart.one, chart.rest]))
    if len(pairs) == 0:
        return ("table", name, (), (otherwise,))
    kind = kind_found(sums, found)
    if kind == "count":
        return (kind, name, key, pairs, query)
    seen = name_seen(fitting, name, ranges, sums)
    return (kind, name, seen, key, pairs, query, otherwise[0])


def by_depth(program, names):
    """The list of some names of a program by their depths, sign ahead of place, equal ones by name."""
    found = sorted([(program.depth(name), name == "place", name) for name in names])
    return [part[2] for part in found]


def ordered_line(program, line):
    """A line of a program, with the names of a table, and its values with them, in order."""
    if line[0] != "table":
        return line
    names = by_depth(program, line[2])
    rule = program.rule_of(line[1])
    values = []
    for row in rows_of_values([program.range_of(name) for name in names]):
        held = dict(zip(names, row))
        values.append(rule[tuple([held[name] for name in line[2]])])
    return ("table", line[1], tuple(names), tuple(values))


def read_back(fitting):
    """The program that is read back from a fitting."""
    net = fitting.net
    chart = fitting.chart
    ranges = given_ranges(net.signs, net.n)
    looks = [look[0] for look in chart.looks()]
    lines = []
    for name in names_to_read(chart):
        reader = look_read if name in looks else table_read
        line = reader(fitting, name, ranges)
        ranges[name] = line_range(line, ranges, net.n)
        lines.append(line)
    program = Program(net.signs, net.n, lines, fitting.program.told)
    names = by_depth(program, program.names())
    ordered = [ordered_line(program, program.line_of(name)) for name in names]
    return Program(net.signs, net.n, ordered, program.told)
