"""The plain meaning of programs: the values of all names at the places of a text."""

from lookingnets.errors import BadValue, NoName
from lookingnets.lines import asked, is_look, related
from lookingnets.values import is_number


def plain_values(program, text):
    """The dict from all names of a program to the tuples of their values at a text's places."""
    return program.values_at(text)


def check_look(program, name):
    """Raises an error unless any value is the own name of a look of a program."""
    if not is_look(program.line_of(name)):
        raise NoName(name)


def found_places(program, name, text, at):
    """The ascending list of the places that a look finds from a place of a text."""
    check_look(program, name)
    values = program.values_at(text)
    if not is_number(at) or not 0 <= at < len(text):
        raise BadValue(at)
    key, relation, query = asked(program.line_of(name))
    b = values[query][at]
    return [place for place, a in enumerate(values[key]) if related(relation, a, b)]


def sign_of(value, signs):
    """The sign that a value, or None in the place of one, stands for; None if there is none."""
    if value is None or value[1] != 1 or not 0 <= value[0] < signs:
        return None
    return value[0]


def next_sign(program, text):
    """The sign that a program tells at the last place of a text; None if it tells none there."""
    return sign_of(program(text)[-1], program.signs)
