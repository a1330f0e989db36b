"""Expressions: tuples of words in prefix form, over fractions."""

from lookingnets.errors import NoName
from lookingnets.values import (
    FIGURES, ONE, ZERO, below, floor_of, fraction, minus, plus, quotient, read_number, times,
)

RESERVED = (
    "program", "let", "tell", "be", "table", "first", "last", "count", "mean", "where", "pairs",
    "else", "sign", "place", "min", "max", "mod", "div", "and", "or", "not", "if",
)
GIVEN = ("sign", "place")
RELATIONS = ("=", "/=", "<", "<=", ">", ">=")
LETTERS = "abcdefghijklmnopqrstuvwxyz"
MOST_WORDS = 30
# What stands behind each operator: e for an expression, k for one of the integers 1 to 9.
OPERANDS = {
    "+": "ee", "-": "ee", "*": "ee", "min": "ee", "max": "ee",
    "=": "ee", "/=": "ee", "<": "ee", "<=": "ee", ">": "ee", ">=": "ee",
    "and": "ee", "or": "ee", "mod": "ek", "div": "ek", "not": "e", "if": "eee",
}


def is_word_name(value):
    """Whether any value is a string of 1 to 6 letters and digits that begins with a letter."""
    if not isinstance(value, str) or not 1 <= len(value) <= 6:
        return False
    return value[0] in LETTERS and all([sign in LETTERS or sign in FIGURES for sign in value])


def is_own_name(value):
    """Whether any value is a word name that is not reserved."""
    return is_word_name(value) and value not in RESERVED


def is_name(value):
    """Whether any value is an own name or a given name."""
    return is_own_name(value) or (isinstance(value, str) and value in GIVEN)


def is_integer_word(word, least, greatest):
    """Whether a string writes out a number within these bounds."""
    number = read_number(word)
    return number is not None and least <= number <= greatest


def operands_behind(word, kind):
    """The kinds of the operands of any word that stands for a kind; None if it cannot."""
    if not isinstance(word, str):
        return None
    if kind == "k":
        return "" if is_integer_word(word, 1, 9) else None
    if is_name(word) or is_integer_word(word, -9, 9):
        return ""
    return OPERANDS.get(word)


def is_expression(value):
    """Whether any value is an expression."""
    if not isinstance(value, tuple) or not 1 <= len(value) <= MOST_WORDS:
        return False
    wanted = "e"
    for word in value:
        if wanted == "":
            return False
        operands = operands_behind(word, wanted[0])
        if operands is None:
            return False
        wanted = operands + wanted[1:]
    return wanted == ""


def names_in(words):
    """The tuple of the different names of an expression, in the order of its words."""
    return tuple({word: True for word in words if is_name(word)})


def truth(holds):
    """The fraction that stands for yes or no."""
    return ONE if holds else ZERO


def compared(relation, a, b):
    """Whether two fractions are in one of the six relations."""
    if relation == "=":
        return a == b
    if relation == "/=":
        return a != b
    if relation == "<":
        return below(a, b)
    if relation == "<=":
        return not below(b, a)
    if relation == ">":
        return below(b, a)
    return not below(a, b)


def whole_quotient(a, b):
    """The whole part below a quotient, as a fraction."""
    return fraction(floor_of(quotient(a, b)))


def value_of_two(word, a, b):
    """The value of an operator with two operands."""
    if word in RELATIONS:
        return truth(compared(word, a, b))
    if word == "+":
        return plus(a, b)
    if word == "-":
        return minus(a, b)
    if word == "*":
        return times(a, b)
    if word == "min":
        return b if below(b, a) else a
    if word == "max":
        return b if below(a, b) else a
    if word == "and":
        return truth(a != ZERO and b != ZERO)
    if word == "or":
        return truth(a != ZERO or b != ZERO)
    if word == "div":
        return whole_quotient(a, b)
    return minus(a, times(b, whole_quotient(a, b)))


def value_of_word(word, operands, values):
    """The value of a word of an expression, for the values of its operands."""
    if is_name(word):
        return values[word]
    if word == "not":
        return truth(operands[0] == ZERO)
    if word == "if":
        return operands[2] if operands[0] == ZERO else operands[1]
    if word in OPERANDS:
        return value_of_two(word, operands[0], operands[1])
    return fraction(int(word))


def evaluate(words, values):
    """The value of an expression, for a dict from names to fractions."""
    for name in names_in(words):
        if name not in values:
            raise NoName(name)
    # From the last word on, the values that wait are those of the operands, the first one ahead.
    waiting = []
    for word in reversed(words):
        many = len(OPERANDS.get(word, ""))
        waiting = [value_of_word(word, waiting[:many], values)] + waiting[many:]
    return waiting[0]
