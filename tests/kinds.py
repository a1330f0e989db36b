"""Values of any kind, for the functions that take any value, and texts that are almost right."""

from lookingnets.errors import BadValue, NothingLeft


def nested(depth):
    """A list that is nested that deep, with a fraction innermost."""
    value = (1, 2)
    for _ in range(depth):
        value = [value]
    return value


def any_values():
    """Values of each kind that "any value" may be; none is a string of words, or a fraction."""
    return [
        None, True, False, 0, 1, -1, 7, 10 ** 18 - 1, 10 ** 30,
        " ", "\n", "~", "A", "Aa", "a b", "/", "-", "+-", "a" * 400000,
        (), [], (1,), [1], (1, 2, 3), [1, 2], (None, None), ("a", 1), (1, "a"), ("1", "2"),
        (True, 1), (1, True), (True, True), (False, 1), (1, False), (0, True),
        ((1, 2),), ((1, 2), (1, 3)), ((1, 2), 3), (3, (1, 2)), ([1], 2), (1, [2]), ([], []),
        nested(8), (nested(7), nested(7)), BadValue(3), NothingLeft(), (BadValue(1), 2),
    ]


def almost(chance, text, signs):
    """A text with a character, a word or a line that is put in, left out, doubled or changed."""
    deed = chance.randrange(8)
    at = chance.randrange(len(text))
    if deed == 0:
        return text[:at] + text[at + 1:]
    if deed in (1, 2):
        return text[:at] + chance.choice(signs) + text[at + deed - 1:]
    rows = text.split("\n")
    row = chance.randrange(len(rows))
    if deed == 3:
        return "\n".join(rows[:row] + rows[row + 1:])
    if deed == 4:
        return "\n".join(rows[:row] + [chance.choice(rows)] + rows[row:])
    words = rows[row].split(" ")
    word = chance.randrange(len(words))
    if deed == 5:
        words = words[:word] + words[word + 1:]
    elif deed == 6:
        words = words[:word] + [chance.choice(words)] + words[word:]
    else:
        words[word] = chance.choice(text.split())
    return "\n".join(rows[:row] + [" ".join(words)] + rows[row + 1:])
