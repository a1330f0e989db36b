"""Ranges of lines, what makes a line wrong in view of ranges, and lines for smaller ranges."""

from lookingnets.expressions import evaluate
from lookingnets.lines import asked, is_look, line_names, related
from lookingnets.values import ascending, below, fraction, is_value

MOST_LINE_NAMES = 3
MOST_ROWS = 400
MOST_MEANT = 4
MOST_RANGE = 40


def means(values, n):
    """The ascending tuple of the means of 1 to n of some whole fractions."""
    found = []
    sums = [0]
    for many in range(1, n + 1):
        sums = sorted({total + value[0] for total in sums for value in values})
        found = found + [fraction(total, many) for total in sums]
    return ascending(found)


def rows_of_values(ranges):
    """The list of all rows of values, for a list of ranges; the last one changes fastest."""
    rows = [()]
    for values in ranges:
        rows = [row + (value,) for row in rows for value in values]
    return rows


def line_rows(line, ranges):
    """The list of the rows of values of the names of a be or table line."""
    return rows_of_values([ranges[name] for name in line_names(line)])


def results(line, ranges):
    """The list of the values of a be or table line, one for each row of values."""
    if line[0] == "table":
        return list(line[3])
    names = line_names(line)
    return [evaluate(line[2], dict(zip(names, row))) for row in line_rows(line, ranges)]


def meant_pairs(line, ranges):
    """The list of the pairs of a value of K's range and one of Q's that are in a look's relation."""
    key, relation, query = asked(line)
    return [(a, b) for a in ranges[key] for b in ranges[query] if related(relation, a, b)]


def line_rule(line, ranges):
    """What a line does: for be and table a dict from each row of values to the line's value, and
    for a look a dict of the pairs that are in its relation.
    """
    if is_look(line):
        return {pair: True for pair in meant_pairs(line, ranges)}
    return {row: value for row, value in zip(line_rows(line, ranges), results(line, ranges))}


def line_range(line, ranges, n):
    """The range of a line, for a dict with the ranges of its names."""
    if line[0] == "count":
        return tuple([(many, 1) for many in range(n + 1)])
    if not is_look(line):
        return ascending(results(line, ranges))
    values = ranges[line[2]]
    if line[0] == "mean":
        values = means(values, n)
    return ascending(list(values) + [fraction(line[6])])


def has_wrong_names(line):
    """Whether a be or table line has too many names, or a table a name twice."""
    if is_look(line):
        return False
    names = line_names(line)
    if line[0] == "table" and len(names) < len(line[2]):
        return True
    return len(names) > MOST_LINE_NAMES


def count_rows(line, ranges):
    """The product of the lengths of the ranges of a line's names; for a look those of K and Q."""
    names = line_names(line)
    if is_look(line):
        key, _, query = asked(line)
        names = (key, query)
    count = 1
    for name in names:
        count = count * len(ranges[name])
    return count


def is_ahead(pair, other):
    """Whether a pair of fractions is ahead of another one in ascending order."""
    if pair[0] != other[0]:
        return below(pair[0], other[0])
    return below(pair[1], other[1])


def has_wrong_pairs(line, ranges):
    """Whether the relation of a look is a tuple of pairs that cannot stand."""
    key, relation, query = asked(line)
    if isinstance(relation, str):
        return False
    if not all([a in ranges[key] and b in ranges[query] for a, b in relation]):
        return True
    return not all([is_ahead(pair, other) for pair, other in zip(relation, relation[1:])])


def has_wrong_values(line, ranges):
    """Whether the word `values` applies to a line."""
    if line[0] == "be":
        return not all([is_value(value) for value in results(line, ranges)])
    if line[0] == "table":
        return len(line[3]) != count_rows(line, ranges)
    if has_wrong_pairs(line, ranges):
        return True
    if line[0] != "mean":
        return False
    values = ranges[line[2]]
    return len(values) > MOST_MEANT or not all([value[1] == 1 for value in values])


def line_fault(line, ranges, n):
    """The first word from `unknown` on that applies to a line, for a dict with the ranges of the
    names that it may have; the empty string if none applies.
    """
    if not all([name in ranges for name in line_names(line)]):
        return "unknown"
    if has_wrong_names(line):
        return "names"
    if count_rows(line, ranges) > MOST_ROWS:
        return "product"
    if has_wrong_values(line, ranges):
        return "values"
    if len(line_range(line, ranges, n)) > MOST_RANGE:
        return "range"
    return ""


def are_within(row, ranges):
    """Whether each value of a row lies in the range at its index."""
    return all([value in values for value, values in zip(row, ranges)])


def restricted_line(line, old, new):
    """A line restricted from the old ranges of its names to the new ones, two dicts."""
    if line[0] == "table":
        ranges = [new[name] for name in line[2]]
        rule = line_rule(line, old)
        return line[:3] + (tuple([rule[row] for row in rule if are_within(row, ranges)]),)
    if not is_look(line) or isinstance(asked(line)[1], str):
        return line
    key, relation, query = asked(line)
    ranges = [new[key], new[query]]
    kept = tuple([pair for pair in relation if are_within(pair, ranges)])
    at = 3 if line[0] == "count" else 4
    return line[:at] + (kept,) + line[at + 1:]


def restricted_lines(lines, old, given, n):
    """The list of lines restricted from their old ranges to new ones, from the first line on.

    The new ranges of the given names are in the dict given.
    """
    new = dict(given)
    kept = []
    for line in lines:
        restricted = restricted_line(line, old, new)
        new[line[1]] = line_range(restricted, new, n)
        kept.append(restricted)
    return kept
