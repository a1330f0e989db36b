"""Changes of fittings: each gives a new fitting, and the one that it is given stays as it is."""

from lookingnets.charts import Chart, column_list, differ, own_columns
from lookingnets.errors import BadChange
from lookingnets.expressions import GIVEN
from lookingnets.fittings import Fitting
from lookingnets.judging import gives_to
from lookingnets.lines import is_look, line_names
from lookingnets.nets import Net, is_column, kind_at, renumbered_entries, renumbered_part
from lookingnets.values import ONE, ZERO, below, is_fraction, is_number, quotient, times


def is_order(value, width):
    """Whether any value is a list or tuple of all columns of a net of some width, each once."""
    if not isinstance(value, (list, tuple)) or len(value) != width:
        return False
    return all([is_column(column, width) for column in value]) and differ(value)


def is_above_zero(value):
    """Whether any value is a fraction above 0."""
    return is_fraction(value) and below(ZERO, value)


def is_kind_at(net, stage, kind):
    """Whether any value is the index of a stage of some kind."""
    return is_number(stage) and kind_at(net, stage) == kind


def numbered(olds):
    """The dict from each of some things to its index among them."""
    return {old: new for new, old in enumerate(olds)}


def renumbered_net(net, columns, stages):
    """A net with other stages, and with its columns renumbered by a dict of those that stay."""
    return Net(
        net.signs, net.n, len(columns), rest=renumbered_entries(net.rest_row(), columns),
        sign_rows=[renumbered_entries(row, columns) for row in net.sign_rows()],
        place_rows=[renumbered_entries(row, columns) for row in net.place_rows()], stages=stages,
    )


def renumbered_chart(chart, names, columns, stages, heads):
    """A chart with some of its names alone, with its columns and stages renumbered by dicts, and
    with its heads renumbered by a dict from the pairs of a stage and a head.
    """
    entries = []
    for name, pairs, stage in chart.names():
        if name in names:
            new = [(value, columns[column]) for value, column in pairs]
            entries.append((name, new, stages[stage]))
    looks = []
    for name, stage, head, scratch in chart.looks():
        if name in names:
            new = [columns[column] for column in scratch]
            looks.append((name, stages[stage], heads[(stage, head)], new))
    return Chart(columns[chart.one], columns[chart.rest], entries, looks)


def moved(fitting, order):
    """The fitting with its columns in a new order, a list of the old columns."""
    net = fitting.net
    if not is_order(order, net.width):
        raise BadChange("order")
    columns = numbered(order)
    stages = []
    for kind, parts in net.stages():
        stages.append((kind, [renumbered_part(kind, part, columns) for part in parts]))
    names = [entry[0] for entry in fitting.chart.names()]
    same_stages = {at: at for at in range(-1, len(stages))}
    same_heads = {(look[1], look[2]): look[2] for look in fitting.chart.looks()}
    chart = renumbered_chart(fitting.chart, names, columns, same_stages, same_heads)
    return Fitting(fitting.program, renumbered_net(net, columns, stages), chart)


def scaled_entries(entries, column, factor):
    """The list of entries in which those of a column are multiplied by a factor."""
    return [(at, times(old, factor) if at == column else old) for at, old in entries]


def scaled_triples(triples, column, left_factor, right_factor):
    """The list of triples that are multiplied by a factor where a column stands on the left, and by
    another one where it stands on the right.
    """
    found = []
    for left, right, factor in triples:
        new = times(factor, left_factor) if left == column else factor
        found.append((left, right, times(new, right_factor) if right == column else new))
    return found


def scaled_part(kind, part, column, factor):
    """A head or a unit for a column that holds its contents times a factor."""
    inverse = quotient(ONE, factor)
    if kind == "heads":
        scores = scaled_triples(part[0], column, inverse, inverse)
        return (scores, scaled_triples(part[1], column, factor, inverse))
    terms = scaled_entries(part[0], column, inverse)
    return (terms, part[1], scaled_entries(part[2], column, factor))


def scaled(fitting, column, factor):
    """The fitting in which a column holds its contents times a factor."""
    net = fitting.net
    chart = fitting.chart
    fixed = [chart.one, chart.rest] + own_columns(chart.names(), [])
    if not is_column(column, net.width) or column in fixed:
        raise BadChange("column")
    if not is_above_zero(factor):
        raise BadChange("factor")
    stages = []
    for kind, parts in net.stages():
        stages.append((kind, [scaled_part(kind, part, column, factor) for part in parts]))
    new_net = Net(
        net.signs, net.n, net.width, rest=scaled_entries(net.rest_row(), column, factor),
        sign_rows=[scaled_entries(row, column, factor) for row in net.sign_rows()],
        place_rows=[scaled_entries(row, column, factor) for row in net.place_rows()], stages=stages,
    )
    return Fitting(fitting.program, new_net, chart)


def check_head(net, stage, head):
    """Raises an error unless any two values are the indexes of a heads stage and of its head."""
    if not is_kind_at(net, stage, "heads"):
        raise BadChange("stage")
    if not is_number(head) or not 0 <= head < len(net.stages()[stage][1]):
        raise BadChange("head")


def scores_of(net, stage, head):
    """The scores of a head of a net."""
    return net.stages()[stage][1][head][0]


def with_scores(fitting, stage, head, scores):
    """The fitting with other scores of a head."""
    stages = list(fitting.net.stages())
    heads = list(stages[stage][1])
    heads[head] = (scores, heads[head][1])
    stages[stage] = ("heads", heads)
    return Fitting(fitting.program, fitting.net.with_stages(stages), fitting.chart)


def lifted(fitting, stage, head, factor):
    """The fitting with the scores of a head multiplied by a factor."""
    check_head(fitting.net, stage, head)
    if not is_above_zero(factor):
        raise BadChange("factor")
    scores = scores_of(fitting.net, stage, head)
    new = [(here, there, times(old, factor)) for here, there, old in scores]
    return with_scores(fitting, stage, head, new)


def shifted(fitting, stage, head, amount):
    """The fitting with an amount added to all scores that a place asks a head for."""
    check_head(fitting.net, stage, head)
    if not is_fraction(amount):
        raise BadChange("amount")
    one = fitting.chart.one
    new = list(scores_of(fitting.net, stage, head)) + [(one, one, amount)]
    return with_scores(fitting, stage, head, new)


def names_at(chart, stage):
    """The list of the names whose entries have a stage."""
    return [entry[0] for entry in chart.names() if entry[2] == stage]


def split_units(fitting, stage, names):
    """The lists of the units of a bend that serve none of some of its names, and of those that do."""
    chart = fitting.chart
    own = [column for name in names for column in column_list(chart, name)]
    others = [name for name in names_at(chart, stage) if name not in names]
    strange = [column for name in others for column in column_list(chart, name)]
    staying = []
    going = []
    for unit in fitting.net.stages()[stage][1]:
        if not gives_to(unit, own):
            staying.append(unit)
        elif gives_to(unit, strange):
            raise BadChange("shared")
        else:
            going.append(unit)
    return (staying, going)


def are_names_at(value, chart, stage):
    """Whether any value is a list or tuple of some different names whose entries have a stage."""
    if not isinstance(value, (list, tuple)) or len(value) == 0:
        return False
    known = names_at(chart, stage)
    return all([isinstance(name, str) and name in known for name in value]) and differ(value)


def parted(fitting, stage, names):
    """The fitting with a new bend behind a bend, for the units that serve some of its names."""
    chart = fitting.chart
    if not is_kind_at(fitting.net, stage, "bend"):
        raise BadChange("stage")
    if not are_names_at(names, chart, stage):
        raise BadChange("names")
    staying, going = split_units(fitting, stage, names)
    stages = list(fitting.net.stages())
    stages[stage:stage + 1] = [("bend", staying), ("bend", going)]
    net = fitting.net.with_stages(stages)
    entries = []
    for name, pairs, at in chart.names():
        entries.append((name, pairs, at + 1 if at > stage or name in names else at))
    looks = []
    for name, at, head, scratch in chart.looks():
        looks.append((name, at + 1 if at > stage else at, head, scratch))
    return Fitting(fitting.program, net, Chart(chart.one, chart.rest, entries, looks))


def is_read_at(fitting, name, stage):
    """Whether a name is one of the names of a be or table line whose entry has a stage."""
    for line in fitting.program.lines():
        if not is_look(line) and name in line_names(line) and fitting.chart.stage(line[1]) == stage:
            return True
    return False


def later(fitting, name):
    """The fitting in which the units of a line stand in the next bend."""
    chart = fitting.chart
    if not isinstance(name, str) or name not in fitting.program.names():
        raise BadChange("name")
    stage = chart.stage(name)
    if kind_at(fitting.net, stage + 1) != "bend":
        raise BadChange("bend")
    if is_read_at(fitting, name, stage + 1):
        raise BadChange("read")
    staying, going = split_units(fitting, stage, [name])
    stages = list(fitting.net.stages())
    stages[stage] = ("bend", staying)
    stages[stage + 1] = ("bend", list(stages[stage + 1][1]) + going)
    entries = []
    for known, pairs, at in chart.names():
        entries.append((known, pairs, at + 1 if known == name else at))
    new_chart = Chart(chart.one, chart.rest, entries, chart.looks())
    return Fitting(fitting.program, fitting.net.with_stages(stages), new_chart)


def head_places(looks):
    """The dict of the pairs of the stage and the head of some look entries."""
    return {(look[1], look[2]): True for look in looks}


def parts_left(stage, columns, without):
    """The list of pairs of the old index of each head or unit of a stage that is left, and what is
    left of it, for the dict of the columns that stay.

    For heads, without has the indexes of those that go; for a bend, the columns that go.
    """
    kind, parts = stage
    found = []
    for index, part in enumerate(parts):
        left = renumbered_part(kind, part, columns)
        if kind == "heads":
            goes = index in without
        else:
            goes = gives_to(part, without) and len(left[2]) == 0
        if not goes:
            found.append((index, left))
    return found


def stages_left(net, columns, lost_names, lost_heads):
    """The stages of a net that are left if entries and heads go, for the dict of the columns that
    stay; and the dicts of the new indexes of stages, and of heads and units.
    """
    left = []
    new_stages = {-1: -1}
    new_parts = {}
    for at, stage in enumerate(net.stages()):
        if stage[0] == "heads":
            without = [head for place, head in lost_heads if place == at]
        else:
            without = own_columns([entry for entry in lost_names if entry[2] == at], [])
        parts = parts_left(stage, columns, without)
        if len(parts) > 0:
            new_stages[at] = len(left)
            for new, pair in enumerate(parts):
                new_parts[(at, pair[0])] = new
            left.append((stage[0], [part for _, part in parts]))
    return (left, new_stages, new_parts)


def pruned(fitting):
    """The fitting with what its needed lines need alone."""
    net = fitting.net
    chart = fitting.chart
    program = fitting.program.pruned()
    names = list(GIVEN) + program.names()
    lost_names = [entry for entry in chart.names() if entry[0] not in names]
    lost_looks = [look for look in chart.looks() if look[0] not in names]
    kept_heads = head_places([look for look in chart.looks() if look[0] in names])
    lost_heads = [place for place in head_places(lost_looks) if place not in kept_heads]
    lost = own_columns(lost_names, lost_looks)
    columns = numbered([column for column in range(net.width) if column not in lost])
    left, new_stages, new_parts = stages_left(net, columns, lost_names, lost_heads)
    new_chart = renumbered_chart(chart, names, columns, new_stages, new_parts)
    return Fitting(program, renumbered_net(net, columns, left), new_chart)


def shortened(fitting, n):
    """The fitting shortened to n places."""
    net = fitting.net
    program = fitting.program.shortened(n)
    short = Net(
        net.signs, n, net.width, rest=net.rest_row(), sign_rows=net.sign_rows(),
        place_rows=net.place_rows()[:n], stages=net.stages(),
    )
    return Fitting(program, short, fitting.chart)
