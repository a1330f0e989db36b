"""Lines of programs: what a line is, its names, its text, and the relation of a look."""

from lookingnets.expressions import (
    RELATIONS, compared, is_expression, is_name, is_own_name, names_in,
)
from lookingnets.values import is_number, is_value, read_number, read_value, value_text

KINDS = ("be", "table", "first", "last", "count", "mean")
MOST_NAMES = 12
MOST_VALUES = 400


def is_relation(value):
    """Whether any value is one of the six signs, or a tuple of pairs of values."""
    if isinstance(value, str):
        return value in RELATIONS
    return isinstance(value, tuple) and all([is_pair(pair) for pair in value])


def is_pair(value):
    """Whether any value is a pair of values."""
    return isinstance(value, tuple) and len(value) == 2 and is_value(value[0]) and is_value(value[1])


def are_names(value):
    """Whether any value is a tuple of names that a table may have."""
    if not isinstance(value, tuple) or len(value) > MOST_NAMES:
        return False
    return all([is_name(name) for name in value])


def are_values(value):
    """Whether any value is a tuple of values that a table may have."""
    if not isinstance(value, tuple) or len(value) > MOST_VALUES:
        return False
    return all([is_value(part) for part in value])


def are_asked(parts):
    """Whether a tuple has the three parts K, R and Q."""
    return len(parts) == 3 and is_name(parts[0]) and is_relation(parts[1]) and is_name(parts[2])


def is_line(value):
    """Whether any value is a line."""
    if not isinstance(value, tuple) or len(value) < 3 or not is_own_name(value[1]):
        return False
    kind = value[0]
    parts = value[2:]
    if not isinstance(kind, str) or kind not in KINDS:
        return False
    if kind == "be":
        return len(parts) == 1 and is_expression(parts[0])
    if kind == "table":
        return len(parts) == 2 and are_names(parts[0]) and are_values(parts[1])
    if kind == "count":
        return are_asked(parts)
    if not is_name(parts[0]) or not are_asked(parts[1:4]) or len(parts) != 5:
        return False
    return is_number(parts[4]) and -9 <= parts[4] <= 9


def is_look(line):
    """Whether a line is a look."""
    return line[0] not in ("be", "table")


def asked(line):
    """The parts K, R and Q of a look."""
    return line[2:5] if line[0] == "count" else line[3:6]


def line_names(line):
    """The tuple of the different names of a line, in order."""
    if line[0] == "be":
        return names_in(line[2])
    if line[0] == "table":
        return tuple({name: True for name in line[2]})
    key, _, query = asked(line)
    names = (key, query) if line[0] == "count" else (line[2], key, query)
    return tuple({name: True for name in names})


def asked_words(line):
    """The words of a look for K, R and Q."""
    key, relation, query = asked(line)
    if isinstance(relation, str):
        return [key, relation, query]
    return [key, "pairs", query] + [f"{value_text(a)}:{value_text(b)}" for a, b in relation]


def own_words(line):
    """The words of a line behind its kind."""
    if line[0] == "be":
        return list(line[2])
    if line[0] == "table":
        return list(line[2]) + [":"] + [value_text(value) for value in line[3]]
    if line[0] == "count":
        return ["where"] + asked_words(line)
    return [line[2], "where"] + asked_words(line) + ["else", str(line[6])]


def line_text(line):
    """The text of a line, without its line feed."""
    return " ".join(["let", line[1], line[0]] + own_words(line))


def read_pair(word):
    """The pair that a word writes out, with None for a part that is no value."""
    left, _, right = word.partition(":")
    return (read_value(left), read_value(right))


def read_asked(words):
    """The tuple of K, R and Q for their words; another tuple if they are too few or too many."""
    if len(words) < 3 or words[1] != "pairs":
        return tuple(words)
    return (words[0], tuple([read_pair(word) for word in words[3:]]), words[2])


def line_of_words(words):
    """What is a line, if the words are those of a line; what it is otherwise is free."""
    if len(words) < 4:
        return None
    start = (words[2], words[1])
    rest = words[3:]
    if words[2] == "be":
        return start + (tuple(rest),)
    if words[2] == "table":
        if ":" not in rest:
            return None
        colon = rest.index(":")
        return start + (tuple(rest[:colon]), tuple([read_value(word) for word in rest[colon + 1:]]))
    if words[2] == "count":
        return start + read_asked(rest[1:])
    return start + (rest[0],) + read_asked(rest[2:-2]) + (read_number(rest[-1]),)


def read_line(text):
    """The line with a text; None for any value that is none."""
    if not isinstance(text, str):
        return None
    line = line_of_words(text.split(" "))
    # Many wrong texts give a line as well, but no other text than its own does.
    if not is_line(line) or line_text(line) != text:
        return None
    return line


def related(relation, a, b):
    """Whether two fractions are in a relation."""
    if isinstance(relation, str):
        return compared(relation, a, b)
    return (a, b) in relation


def renamed_line(line, names):
    """A line with other names, by a dict from each of its names to the new one."""
    start = (line[0], names[line[1]])
    if line[0] == "be":
        return start + (tuple([names.get(word, word) for word in line[2]]),)
    if line[0] == "table":
        return start + (tuple([names[name] for name in line[2]]), line[3])
    key, relation, query = asked(line)
    parts = (names[key], relation, names[query])
    if line[0] == "count":
        return start + parts
    return start + (names[line[2]],) + parts + (line[6],)
