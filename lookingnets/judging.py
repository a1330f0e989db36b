"""The judge: it reads a program, a net and a chart, and never runs the net."""

from lookingnets.charts import HeadSums, column_list
from lookingnets.expressions import GIVEN, truth
from lookingnets.lines import asked, is_look, line_names
from lookingnets.nets import begin_contents, kind_at, writers
from lookingnets.ranges import means
from lookingnets.values import ONE, ZERO, ascending, below, fraction, minus, plus, quotient, times


def gives_to(unit, columns):
    """Whether a unit gives to one of some columns."""
    return any([column in columns for column, _ in unit[2]])


def served(net, chart, name):
    """The list of the units that serve a name of a chart."""
    columns = {column: True for _, column in chart.columns(name)}
    stage = chart.stage(name)
    if kind_at(net, stage) != "bend":
        return []
    return [unit for unit in net.stages()[stage][1] if gives_to(unit, columns)]


def sums_given(units, columns, contents):
    """The tuple of the sums of the gifts of some units to each of some columns, for a dict from
    columns to their contents.
    """
    sums = {}
    for terms, shift, givings in units:
        z = shift
        for column, factor in terms:
            if column in contents:
                z = plus(z, times(contents[column], factor))
        if below(ZERO, z):
            for column, factor in givings:
                sums[column] = plus(sums.get(column, ZERO), times(z, factor))
    return tuple([sums.get(column, ZERO) for column in columns])


def are_below(columns, width):
    """Whether some columns are columns of a net of some width."""
    return all([column < width for column in columns])


def is_entry_right(chart, name, values, width):
    """Whether the entry of a name has all of some values, and columns below a width alone."""
    if not all([chart.column(name, value) is not None for value in values]):
        return False
    return are_below(column_list(chart, name), width)


def is_shaped(program, net, chart):
    """Whether a net and a chart have the shape of a program, but for its lines."""
    if net.signs != program.signs or net.n != program.n:
        return False
    known = list(GIVEN) + program.names()
    entries = [entry[0] for entry in chart.names()]
    looks = [look[0] for look in chart.looks()]
    if not all([name in known for name in entries]):
        return False
    for name in GIVEN:
        if name not in entries or name in looks or chart.stage(name) != -1:
            return False
        if not is_entry_right(chart, name, program.range_of(name), net.width):
            return False
    return are_below([chart.one, chart.rest], net.width)


def is_line_shaped(program, net, chart, line):
    """Whether a net and a chart have the shape of a line of a program."""
    name = line[1]
    if name not in [entry[0] for entry in chart.names()]:
        return False
    if kind_at(net, chart.stage(name)) != "bend":
        return False
    if not is_entry_right(chart, name, program.range_of(name), net.width):
        return False
    has_look = name in [look[0] for look in chart.looks()]
    if not has_look or not is_look(line):
        return has_look == is_look(line)
    stage, head, scratch = chart.look(name)
    if kind_at(net, stage) != "heads" or head >= len(net.stages()[stage][1]):
        return False
    return are_below(scratch, net.width)


def is_begin_right(net, chart):
    """Whether one, rest and the columns of the given names hold what they should at first."""
    places = [(sign, place) for sign in range(net.signs) for place in range(net.n)]
    due = {chart.one: [ONE] * (1 + len(places)), chart.rest: [ONE] + [ZERO] * len(places)}
    for value, column in chart.columns("sign"):
        due[column] = [ZERO] + [truth(value == (sign, 1)) for sign, _ in places]
    for value, column in chart.columns("place"):
        due[column] = [ZERO] + [truth(value == (place, 1)) for _, place in places]
    return begin_contents(net, list(due)) == due


def is_begin_empty(net, chart, line):
    """Whether the columns of a line hold nothing at first."""
    columns = column_list(chart, line[1])
    if is_look(line):
        columns = columns + list(chart.look(line[1])[2])
    held = begin_contents(net, columns)
    return all([content == ZERO for column in columns for content in held[column]])


def has_given_stayed(written, chart):
    """Whether no stage writes one, rest or a column of a given name."""
    columns = [chart.one, chart.rest] + column_list(chart, "sign") + column_list(chart, "place")
    return not any([column in written for column in columns])


def has_line_stayed(written, chart, line):
    """Whether nothing writes the columns of a line but what should."""
    name = line[1]
    for column in column_list(chart, name):
        if not all([at == chart.stage(name) for at, _ in written.get(column, {})]):
            return False
    if not is_look(line):
        return True
    stage, head, scratch = chart.look(name)
    return all([
        writer == (stage, head) for column in scratch for writer in written.get(column, {})
    ])


def is_in_order(chart, line):
    """Whether the stages of a line are behind those of its names."""
    before = chart.stage(line[1])
    if is_look(line):
        stage, _, _ = chart.look(line[1])
        if stage >= before:
            return False
        before = stage
    return all([chart.stage(name) < before for name in line_names(line)])


def are_terms_within(units, columns):
    """Whether the terms of some units have only some columns."""
    return all([column in columns for terms, _, _ in units for column, _ in terms])


def are_given(units, chart, name, cases):
    """Whether some units give 1 to the column of a value of a name alone, for each pair of some
    column contents and a value.
    """
    columns = column_list(chart, name)
    for contents, value in cases:
        due = tuple([truth(known == value) for known, _ in chart.columns(name)])
        if sums_given(units, columns, contents) != due:
            return False
    return True


def expression_fault(program, net, chart, line):
    """The word of the first own test of a be or table line that fails; the empty string if none."""
    names = line_names(line)
    units = served(net, chart, line[1])
    read = [column for name in names for column in column_list(chart, name)]
    if not are_terms_within(units, read + [chart.one, chart.rest]):
        return "reads"
    rule = program.rule_of(line[1])
    cases = []
    for row in rule:
        contents = {chart.column(name, value): ONE for name, value in zip(names, row)}
        contents[chart.one] = ONE
        cases.append((contents, rule[row]))
    if not are_given(units, chart, line[1], cases):
        return "values"
    given = sums_given(units, column_list(chart, line[1]), {chart.one: ONE, chart.rest: ONE})
    return "" if all([total == ZERO for total in given]) else "rest"


def possible_places(key, a, n):
    """The list of the places at which the name key may have the value a."""
    return [a[0]] if key == "place" else list(range(n))


def is_score_right(kind, is_meant, score, resting):
    """Whether a score stands to that of the resting place as it should in a look of a kind."""
    if not is_meant:
        return below(score, resting)
    return score == resting if kind == "count" else below(resting, score)


def are_scores_in_order(kind, found):
    """Whether the scores of the meant pairs for one b, in pairs of a place and a score, prefer the
    places that a look of a kind should find.
    """
    if kind == "mean":
        return all([score == found[0][1] for _, score in found])
    held = {}
    for place, score in found:
        held.setdefault(place, []).append(score)
    bounds = [ascending(held[place]) for place in sorted(held)]
    for ahead, behind in zip(bounds, bounds[1:]):
        if kind == "first" and not below(behind[-1], ahead[0]):
            return False
        if kind == "last" and not below(ahead[-1], behind[0]):
            return False
    return True


def are_scores_right(program, line, sums):
    """Whether the test `scores` holds for a look."""
    key, _, query = asked(line)
    rule = program.rule_of(line[1])
    for b in program.range_of(query):
        resting = sums.score_at_rest(b)
        found = []
        for a in program.range_of(key):
            is_meant = (a, b) in rule
            for u in possible_places(key, a, program.n):
                score = sums.score_at(b, a, u)
                if not is_score_right(line[0], is_meant, score, resting):
                    return False
                if is_meant:
                    found.append((u, score))
        if not are_scores_in_order(line[0], found):
            return False
    return True


def along(start, slope, distance):
    """The tuple start plus a number of times the tuple slope."""
    return tuple([plus(a, times(b, distance)) for a, b in zip(start, slope)])


def slope_of(values, seen):
    """The tuple by which scratch contents grow from the first value to the second, for each 1."""
    if len(values) == 1:
        return (ZERO,) * len(seen[0])
    distance = minus(values[1], values[0])
    return tuple([quotient(minus(b, a), distance) for a, b in zip(seen[0], seen[1])])


def are_straight(values, seen):
    """Whether the scratch contents of values stand in one line."""
    slope = slope_of(values, seen)
    return all([
        along(seen[0], slope, minus(value, values[0])) == contents
        for value, contents in zip(values, seen)
    ])


def count_cases(n, some, none):
    """The list of pairs of the scratch contents for a count, and the count."""
    cases = []
    for k in range(n + 1):
        held = [plus(times((k, 1), a), b) for a, b in zip(some, none)]
        cases.append((tuple([quotient(content, (k + 1, 1)) for content in held]), (k, 1)))
    return cases


def seen_cases(line, n, values, seen, none):
    """The list of pairs of scratch contents and the value of a first, last or mean, for Y's range
    and the scratch contents of its values.
    """
    cases = [(contents, value) for value, contents in zip(values, seen)]
    if line[0] == "mean":
        slope = slope_of(values, seen)
        cases = [(along(seen[0], slope, minus(m, values[0])), m) for m in means(values, n)]
    return cases + [(none, fraction(line[6]))]


def is_at_rest(units, chart, scratch, found):
    """Whether the test `rest` holds for the units that serve a look, for the list of the scratch
    contents that there may be.
    """
    bounds = {chart.one: (ONE,), chart.rest: (ONE,)}
    for at, column in enumerate(scratch):
        bounds[column] = ascending([contents[at] for contents in found])
    for terms, shift, _ in units:
        z = shift
        for column, factor in terms:
            held = bounds[column][-1] if below(ZERO, factor) else bounds[column][0]
            z = plus(z, times(held, factor))
        if below(ZERO, z):
            return False
    return True


def is_head_within(net, chart, line):
    """Whether the head of a look reads and writes only what it may."""
    key, _, query = asked(line)
    stage, head, scratch = chart.look(line[1])
    scores, givings = net.stages()[stage][1][head]
    ends = [chart.one, chart.rest]
    heres = column_list(chart, query) + ends
    theres = column_list(chart, key) + column_list(chart, "place") + ends
    sources = ends if line[0] == "count" else column_list(chart, line[2]) + ends
    if not all([here in heres and there in theres for here, there, _ in scores]):
        return False
    return all([to in scratch and source in sources for to, source, _ in givings])


def look_fault(program, net, chart, line):
    """The word of the first own test of a look that fails; the empty string if none does."""
    key, _, query = asked(line)
    _, _, scratch = chart.look(line[1])
    units = served(net, chart, line[1])
    if not is_head_within(net, chart, line):
        return "reads"
    if not are_terms_within(units, list(scratch) + [chart.one, chart.rest]):
        return "reads"
    sums = HeadSums(net, chart, line[1], key, query)
    if not are_scores_right(program, line, sums):
        return "scores"
    none = sums.scratch_from([chart.one, chart.rest])
    if line[0] == "count":
        seen = [sums.scratch_from([chart.one])]
        cases = count_cases(program.n, seen[0], none)
    else:
        values = program.range_of(line[2])
        seen = [sums.scratch_from([chart.column(line[2], v), chart.one]) for v in values]
        if line[0] == "mean" and not are_straight(values, seen):
            return "straight"
        cases = seen_cases(line, program.n, values, seen, none)
    held = []
    for contents, value in cases:
        filled = {column: content for column, content in zip(scratch, contents)}
        filled[chart.one] = ONE
        held.append((filled, value))
    if not are_given(units, chart, line[1], held):
        return "values"
    return "" if is_at_rest(units, chart, scratch, seen + [none]) else "rest"


def common_fault(program, net, chart):
    """The pair of the line and the word of the first test up to `order` that fails; None if all
    hold.
    """
    lines = list(enumerate(program.lines(), 1))
    if not is_shaped(program, net, chart):
        return (0, "shape")
    for number, line in lines:
        if not is_line_shaped(program, net, chart, line):
            return (number, "shape")
    if not is_begin_right(net, chart):
        return (0, "given")
    for number, line in lines:
        if not is_begin_empty(net, chart, line):
            return (number, "given")
    written = writers(net)
    if not has_given_stayed(written, chart):
        return (0, "stays")
    for number, line in lines:
        if not has_line_stayed(written, chart, line):
            return (number, "stays")
    for number, line in lines:
        if not is_in_order(chart, line):
            return (number, "order")
    return None


def judge(program, net, chart):
    """None if a program, a net and a chart are a fitting; otherwise the pair of the first line that
    breaks and the word of its test.
    """
    fault = common_fault(program, net, chart)
    if fault is not None:
        return fault
    for number, line in enumerate(program.lines(), 1):
        own_fault = look_fault if is_look(line) else expression_fault
        word = own_fault(program, net, chart, line)
        if word != "":
            return (number, word)
    return None
