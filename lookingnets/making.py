"""Making: the net and the chart that a program is made into, with all their units and columns."""

from lookingnets.bills import Bill, count_scratch, greatest_steps
from lookingnets.charts import Chart
from lookingnets.lines import asked, is_look, line_names
from lookingnets.nets import Net, normal_part
from lookingnets.ranges import means
from lookingnets.values import ONE, ZERO, floor_of, fraction, minus, plus, quotient

ONE_COLUMN = 0
REST_COLUMN = 1
FIRST_COLUMN = 2


def unit_of(columns, rest, steep, shift, givings):
    """The unit with the terms 1 at some columns and -steep at rest, in normal form."""
    terms = [(column, ONE) for column in columns] + [(rest, fraction(-steep))]
    return normal_part("bend", (terms, shift, givings))


def expression_units(rows, targets, rest):
    """The tuple of the units of a be or table line, for the columns of each row of values and the
    column that each row gives to.
    """
    units = []
    for columns, target in zip(rows, targets):
        units.append(unit_of(columns, rest, 1, fraction(1 - len(columns)), [(target, ONE)]))
    return tuple(units)


def peak_units(points, scratch, rest):
    """The tuple of the units that turn a scratch column into peaks, for a list of pairs of a point
    and its column.
    """
    at = [point for point, _ in points]
    at = [minus(at[0], ONE)] + at + [plus(at[-1], ONE)]
    steep = 3 + floor_of(minus(at[-1], at[0]))
    givings = [[] for _ in at]
    for i in range(1, len(at) - 1):
        column = points[i - 1][1]
        up = quotient(ONE, minus(at[i], at[i - 1]))
        down = quotient(ONE, minus(at[i + 1], at[i]))
        givings[i - 1].append((column, up))
        givings[i].append((column, minus(ZERO, plus(up, down))))
        givings[i + 1].append((column, down))
    units = []
    for point, gifts in zip(at, givings):
        units.append(unit_of([scratch], rest, steep, minus(ZERO, point), gifts))
    return tuple(units)


def lift(program, line):
    """B of a mean: what its scratch holds beyond a mean, so that no mean stands at 0 or below."""
    return minus(ONE, program.range_of(line[2])[0])


def count_points(program, line, chart):
    """The list of the points of a count, each with its column."""
    name = line[1]
    points = []
    for k in reversed(range(program.n + 1)):
        points.append((fraction(1, k + 1), chart.column(name, fraction(k))))
    return points


def mean_points(program, line, chart):
    """The list of the points of a mean, each with its column."""
    name = line[1]
    above = lift(program, line)
    points = [(ZERO, chart.column(name, fraction(line[6])))]
    for mean in means(program.range_of(line[2]), program.n):
        points.append((plus(mean, above), chart.column(name, mean)))
    return points


def expression_line_units(program, line, chart):
    """The tuple of the units of a be or table line."""
    rule = program.rule_of(line[1])
    names = line_names(line)
    rows = []
    targets = []
    for row in rule:
        rows.append([chart.column(name, value) for name, value in zip(names, row)])
        targets.append(chart.column(line[1], rule[row]))
    return expression_units(rows, targets, chart.rest)


def line_units(program, line, chart):
    """The tuple of the units of any line."""
    if not is_look(line):
        return expression_line_units(program, line, chart)
    _, _, scratch = chart.look(line[1])
    if line[0] == "count":
        return peak_units(count_points(program, line, chart), scratch[0], chart.rest)
    if line[0] == "mean":
        return peak_units(mean_points(program, line, chart), scratch[0], chart.rest)
    units = []
    for column, pair in zip(scratch, chart.columns(line[1])):
        units.append(unit_of([column], chart.rest, 2, ZERO, [(pair[1], ONE)]))
    return tuple(units)


def line_scores(program, line, chart):
    """The list of the scores of the head of a look."""
    key, _, query = asked(line)
    n = program.n
    weight = 2 * n
    if line[0] in ("count", "mean"):
        weight = 1 if line[0] == "count" else 2
    scores = []
    for a, b in program.rule_of(line[1]):
        scores.append((chart.column(query, b), chart.column(key, a), fraction(weight)))
    if line[0] in ("count", "mean"):
        return scores + [(chart.one, chart.rest, ONE)]
    for u, pair in enumerate(chart.columns("place")):
        scores.append((chart.one, pair[1], fraction(-u if line[0] == "first" else u - n)))
    if line[0] == "first":
        scores.append((chart.one, chart.rest, fraction(n)))
    return scores


def line_givings(program, line, chart):
    """The list of the givings of the head of a look."""
    _, _, scratch = chart.look(line[1])
    if line[0] == "count":
        return [(scratch[0], chart.rest, ONE)]
    seen = chart.columns(line[2])
    if line[0] == "mean":
        above = lift(program, line)
        return [(scratch[0], column, plus(value, above)) for value, column in seen]
    held = {value: column for value, column in zip(program.range_of(line[1]), scratch)}
    givings = [(held[value], column, ONE) for value, column in seen]
    return givings + [(held[fraction(line[6])], chart.rest, ONE)]


def line_head(program, line, chart):
    """The head of a look."""
    return (line_scores(program, line, chart), line_givings(program, line, chart))


def layer_starts(program):
    """The list of the index of the stage ahead of the first bend of each layer.

    It is that of the layer's heads stage; layer 0 has none, and -1 in its place.
    """
    starts = [-1]
    for steps in greatest_steps(program):
        starts.append(starts[-1] + steps + 1)
    return starts


def column_pairs(values, start):
    """The tuple of the pairs of each value and its column, from a start on."""
    return tuple([(value, start + at) for at, value in enumerate(values)])


def made_map(program):
    """The chart that is made from a program."""
    names = []
    looks = []
    free = FIRST_COLUMN
    for given in ("sign", "place"):
        names.append((given, column_pairs(program.range_of(given), free), -1))
        free = free + len(program.range_of(given))
    starts = layer_starts(program)
    heads = [0] * len(starts)
    for line in program.lines():
        name = line[1]
        layer, step = program.depth(name)
        many = count_scratch(program, line)
        if is_look(line):
            looks.append((name, starts[layer], heads[layer], tuple(range(free, free + many))))
            heads[layer] = heads[layer] + 1
        names.append((name, column_pairs(program.range_of(name), free + many), starts[layer] + step))
        free = free + many + len(program.range_of(name))
    return Chart(ONE_COLUMN, REST_COLUMN, names, looks)


def bend_of(program, lines, chart):
    """The bend with the units of some lines."""
    return ("bend", [unit for line in lines for unit in line_units(program, line, chart)])


def layer_stages(program, layer, steps, chart):
    """The list of the stages of a layer with so many bends."""
    stages = []
    for step in range(1, steps + 1):
        lines = [line for line in program.lines() if program.depth(line[1]) == (layer, step)]
        if layer > 0 and step == 1:
            looks = [line for line in lines if is_look(line)]
            stages.append(("heads", [line_head(program, line, chart) for line in looks]))
        stages.append(bend_of(program, lines, chart))
    return stages


def made_net(program):
    """The net that is made from a program."""
    chart = made_map(program)
    stages = []
    for layer, steps in enumerate(greatest_steps(program)):
        stages = stages + layer_stages(program, layer, steps, chart)
    one = (chart.one, ONE)
    return Net(
        program.signs, program.n, Bill.of_program(program).width,
        rest=[one, (chart.rest, ONE)],
        sign_rows=[[one, (column, ONE)] for _, column in chart.columns("sign")],
        place_rows=[[(column, ONE)] for _, column in chart.columns("place")], stages=stages,
    )
