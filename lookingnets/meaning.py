"""Texts of signs, and what lines mean at their places."""

from lookingnets.errors import NoText, TooLong
from lookingnets.lines import asked, is_look, line_names
from lookingnets.values import fraction, is_number, mean_of


def are_sizes(signs, n):
    """Whether any two values are numbers of signs and of places that may be."""
    return is_number(signs) and 2 <= signs <= 5 and is_number(n) and 1 <= n <= 8


def check_text(text, signs, n):
    """Raises an error unless any value is a text of so many signs and at most n places."""
    if not isinstance(text, (list, tuple)) or len(text) == 0:
        raise NoText(-1)
    if len(text) > n:
        raise TooLong(len(text))
    for at, sign in enumerate(text):
        if not is_number(sign) or not 0 <= sign < signs:
            raise NoText(at)


def given_values(text):
    """The dict from the given names to the tuples of their values at the places of a text."""
    return {
        "sign": tuple([(sign, 1) for sign in text]),
        "place": tuple([(place, 1) for place in range(len(text))]),
    }


def look_value(line, found, values):
    """The value of a look for the list of the found places; values are those of all names."""
    if line[0] == "count":
        return fraction(len(found))
    if len(found) == 0:
        return fraction(line[6])
    seen = [values[line[2]][place] for place in found]
    if line[0] == "mean":
        return mean_of(seen)
    return seen[0] if line[0] == "first" else seen[-1]


def look_values(line, rule, values):
    """The tuple of the values of a look at all places."""
    key, _, query = asked(line)
    out = []
    for b in values[query]:
        found = [place for place, a in enumerate(values[key]) if (a, b) in rule]
        out.append(look_value(line, found, values))
    return tuple(out)


def line_values(line, rule, values):
    """The tuple of the values of a line at all places, for a dict with those of its names."""
    if is_look(line):
        return look_values(line, rule, values)
    columns = [values[name] for name in line_names(line)]
    out = []
    for place in range(len(values["place"])):
        out.append(rule[tuple([column[place] for column in columns])])
    return tuple(out)
