"""Values of any kind, for the functions that take any value."""

from lookingnets.errors import BadValue, NothingLeft


def nested(depth):
    """A list that is nested that deep, with a fraction innermost."""
    value = (1, 2)
    for _ in range(depth):
        value = [value]
    return value


def any_values():
    """Values of each kind that "any value" may be; none is a string of words, or a fraction."""
    return [
        None, True, False, 0, 1, -1, 7, 10 ** 18 - 1, 10 ** 30,
        " ", "\n", "~", "A", "Aa", "a b", "/", "-", "+-", "a" * 400000,
        (), [], (1,), [1], (1, 2, 3), [1, 2], (None, None), ("a", 1), (1, "a"), ("1", "2"),
        (True, 1), (1, True), (True, True), (False, 1), (1, False), (0, True),
        ((1, 2),), ((1, 2), (1, 3)), ((1, 2), 3), (3, (1, 2)), ([1], 2), (1, [2]), ([], []),
        nested(8), (nested(7), nested(7)), BadValue(3), NothingLeft(), (BadValue(1), 2),
    ]
