"""Nets: begin rows and stages of heads and of bends, in normal form, and their texts."""

from lookingnets.errors import BadNet, BadText, TooMany
from lookingnets.meaning import are_sizes
from lookingnets.values import (
    ZERO, is_fraction, is_number, plus, read_number, read_value, value_text,
)

MOST_WIDTH = 2000
MOST_STAGES = 100


def normal_entries(entries):
    """The tuple in normal form of a list of entries."""
    sums = {}
    for column, factor in entries:
        sums[column] = plus(sums.get(column, ZERO), factor)
    return tuple([(column, sums[column]) for column in sorted(sums) if sums[column] != ZERO])


def normal_triples(triples):
    """The tuple in normal form of a list of scores or givings."""
    sums = {}
    for left, right, factor in triples:
        sums[(left, right)] = plus(sums.get((left, right), ZERO), factor)
    return tuple([pair + (sums[pair],) for pair in sorted(sums) if sums[pair] != ZERO])


def normal_part(kind, part):
    """A head of a heads stage, or a unit of a bend, in normal form."""
    if kind == "heads":
        return (normal_triples(part[0]), normal_triples(part[1]))
    return (normal_entries(part[0]), part[1], normal_entries(part[2]))


def normal_stage(stage):
    """A stage with its heads or units in normal form."""
    kind, parts = stage
    return (kind, tuple([normal_part(kind, part) for part in parts]))


def is_column(value, width):
    """Whether any value is a column of a net of some width."""
    return is_number(value) and 0 <= value < width


def are_items(value, many, width):
    """Whether any value is a list or tuple of tuples of so many columns and a factor."""
    if not isinstance(value, (list, tuple)):
        return False
    return all([is_item(item, many, width) for item in value])


def is_item(value, many, width):
    """Whether any value is a tuple of so many columns and a factor."""
    if not isinstance(value, tuple) or len(value) != many + 1:
        return False
    return all([is_column(column, width) for column in value[:-1]]) and is_fraction(value[-1])


def are_rows(value, many, width):
    """Whether any value is a list or tuple of so many entries of begin rows."""
    if not isinstance(value, (list, tuple)) or len(value) != many:
        return False
    return all([are_items(entries, 1, width) for entries in value])


def is_part(kind, value, width):
    """Whether any value is a head, for a heads stage, or a unit, for a bend."""
    if not isinstance(value, tuple):
        return False
    if kind == "heads":
        return len(value) == 2 and are_items(value[0], 2, width) and are_items(value[1], 2, width)
    if len(value) != 3 or not is_fraction(value[1]):
        return False
    return are_items(value[0], 1, width) and are_items(value[2], 1, width)


def is_stage(value, width):
    """Whether any value is a stage of a net of some width."""
    if not isinstance(value, tuple) or len(value) != 2:
        return False
    kind, parts = value
    if not isinstance(kind, str) or kind not in ("heads", "bend"):
        return False
    return isinstance(parts, (list, tuple)) and all([is_part(kind, part, width) for part in parts])


def check_stages(stages, width):
    """Raises an error unless any value is a list or tuple of the stages of a net."""
    if not isinstance(stages, (list, tuple)):
        raise BadNet("stages")
    if len(stages) > MOST_STAGES:
        raise TooMany("stages", len(stages))
    for at, stage in enumerate(stages):
        if not is_stage(stage, width):
            raise BadNet(at)


def renumbered_entries(entries, columns):
    """The list of entries with new columns, by a dict; those with a column that it lacks go."""
    return [(columns[column], factor) for column, factor in entries if column in columns]


def renumbered_triples(triples, columns):
    """The list of scores or givings with new columns, likewise."""
    found = []
    for left, right, factor in triples:
        if left in columns and right in columns:
            found.append((columns[left], columns[right], factor))
    return found


def renumbered_part(kind, part, columns):
    """A head or a unit with new columns, likewise."""
    if kind == "heads":
        return (renumbered_triples(part[0], columns), renumbered_triples(part[1], columns))
    return (renumbered_entries(part[0], columns), part[1], renumbered_entries(part[2], columns))


def kind_at(net, stage):
    """The kind of the stage of a net with an index; the empty string if there is none."""
    stages = net.stages()
    return stages[stage][0] if 0 <= stage < len(stages) else ""


def begin_contents(net, columns):
    """The dict from some columns to the lists of their begin contents: those of the resting place,
    and then those for each sign and each place.
    """
    rest = dict(net.rest_row())
    signs = [dict(row) for row in net.sign_rows()]
    places = [dict(row) for row in net.place_rows()]
    found = {}
    for column in columns:
        held = [rest.get(column, ZERO)]
        for sign in signs:
            for place in places:
                held.append(plus(sign.get(column, ZERO), place.get(column, ZERO)))
        found[column] = held
    return found


def writers(net):
    """The dict from each column that is written to the dict of its writers, which are pairs of the
    index of a stage and that of a head in it, or -1 for a bend.
    """
    found = {}
    for at, stage in enumerate(net.stages()):
        kind, parts = stage
        for index, part in enumerate(parts):
            for giving in part[-1]:
                known = found.setdefault(giving[0], {})
                known[(at, index if kind == "heads" else -1)] = True
    return found


def entry_words(entries):
    """The words of entries."""
    return [f"{column}:{value_text(factor)}" for column, factor in entries]


def triple_words(triples):
    """The words of scores or givings."""
    return [f"{left},{right}:{value_text(factor)}" for left, right, factor in triples]


def part_words(kind, part):
    """The words of a head or of a unit."""
    if kind == "heads":
        return ["head"] + triple_words(part[0]) + [">"] + triple_words(part[1])
    start = ["unit", value_text(part[1])]
    return start + entry_words(part[0]) + [">"] + entry_words(part[2])


def begin_starts(signs, n):
    """The list of the words with which the text of each begin row begins."""
    sign_starts = [["sign", str(sign)] for sign in range(signs)]
    place_starts = [["place", str(place)] for place in range(n)]
    return [["rest"]] + sign_starts + place_starts


def read_entries(words):
    """The entries that words write out, with None for each part that cannot stand."""
    found = []
    for word in words:
        column, _, factor = word.partition(":")
        found.append((read_number(column), read_value(factor)))
    return tuple(found)


def read_triples(words):
    """The scores or givings that words write out, with None for each part that cannot stand."""
    found = []
    for word in words:
        columns, _, factor = word.partition(":")
        left, _, right = columns.partition(",")
        found.append((read_number(left), read_number(right), read_value(factor)))
    return tuple(found)


def read_sizes(row):
    """The tuple of signs, n and width in the first line of a net; None if it cannot stand."""
    words = row.split(" ")
    if len(words) != 4 or words[0] != "net":
        return None
    signs, n, width = [read_number(word) for word in words[1:]]
    if not are_sizes(signs, n) or not is_number(width) or not 1 <= width <= MOST_WIDTH:
        return None
    return (signs, n, width)


def read_begin(row, start, width):
    """The entries of a begin row in a line that begins with some words; None if it cannot stand."""
    words = row.split(" ")
    entries = read_entries(words[len(start):])
    if words[:len(start)] != start or not are_items(entries, 1, width):
        return None
    return entries if normal_entries(entries) == entries else None


def read_part(kind, row, width):
    """The head or the unit of a stage of some kind in a line; None if it cannot stand."""
    words = row.split(" ")
    if ">" not in words:
        return None
    at = words.index(">")
    if kind == "heads" and words[0] == "head":
        part = (read_triples(words[1:at]), read_triples(words[at + 1:]))
    elif kind == "bend" and words[0] == "unit":
        part = (read_entries(words[2:at]), read_value(words[1]), read_entries(words[at + 1:]))
    else:
        return None
    if not is_part(kind, part, width) or normal_part(kind, part) != part:
        return None
    return part


def read_stages(rows, start, width):
    """The list of the stages in the lines from a start on, and the index of the line `end`."""
    stages = []
    for at in range(start, len(rows)):
        row = rows[at]
        if row == "end":
            return (stages, at)
        if row in ("heads", "bend"):
            if len(stages) == MOST_STAGES:
                raise BadText(at)
            stages.append((row, []))
        else:
            part = read_part(stages[-1][0], row, width) if stages else None
            if part is None:
                raise BadText(at)
            stages[-1][1].append(part)
    raise BadText(len(rows))


class Net:
    """Begin rows and stages that can stand together, in normal form; a net never changes."""

    def __init__(self, signs, n, width, *, rest=(), sign_rows, place_rows, stages=()):
        if not are_sizes(signs, n) or not is_number(width) or width < 1:
            raise BadNet("size")
        if width > MOST_WIDTH:
            raise TooMany("width", width)
        if not are_items(rest, 1, width):
            raise BadNet("rest")
        if not are_rows(sign_rows, signs, width):
            raise BadNet("signs")
        if not are_rows(place_rows, n, width):
            raise BadNet("places")
        check_stages(stages, width)
        self.signs = signs
        self.n = n
        self.width = width
        self._rest_row = normal_entries(rest)
        self._sign_rows = tuple([normal_entries(entries) for entries in sign_rows])
        self._place_rows = tuple([normal_entries(entries) for entries in place_rows])
        self._stages = tuple([normal_stage(stage) for stage in stages])

    def rest_row(self):
        """The entries of the resting place."""
        return self._rest_row

    def sign_rows(self):
        """The tuple of the entries of each sign."""
        return self._sign_rows

    def place_rows(self):
        """The tuple of the entries of each place."""
        return self._place_rows

    def stages(self):
        """The tuple of the stages."""
        return self._stages

    @property
    def layers(self):
        """The number of the heads stages."""
        return len([kind for kind, _ in self._stages if kind == "heads"])

    def with_stages(self, stages):
        """The net with other stages."""
        return Net(
            self.signs, self.n, self.width, rest=self._rest_row, sign_rows=self._sign_rows,
            place_rows=self._place_rows, stages=stages,
        )

    def text(self):
        """The text of the net."""
        rows = [["net", str(self.signs), str(self.n), str(self.width)]]
        begins = (self._rest_row,) + self._sign_rows + self._place_rows
        for start, entries in zip(begin_starts(self.signs, self.n), begins):
            rows.append(start + entry_words(entries))
        for kind, parts in self._stages:
            rows.append([kind])
            for part in parts:
                rows.append(part_words(kind, part))
        rows.append(["end"])
        return "".join([" ".join(words) + "\n" for words in rows])

    def __str__(self):
        return str(self.text())

    @staticmethod
    def read(text):
        """The net with a text."""
        if not isinstance(text, str):
            raise BadText(0)
        rows = text.split("\n")
        # Whether the text ends too early or a line lacks its line feed, it is this line that is told.
        behind = rows.pop()
        sizes = read_sizes(rows[0]) if rows else None
        if sizes is None:
            raise BadText(0)
        signs, n, width = sizes
        begins = []
        for at, start in enumerate(begin_starts(signs, n), 1):
            entries = read_begin(rows[at], start, width) if at < len(rows) else None
            if entries is None:
                raise BadText(at)
            begins.append(entries)
        stages, last = read_stages(rows, 1 + len(begins), width)
        if last + 1 < len(rows) or behind != "":
            raise BadText(last + 1)
        return Net(
            signs, n, width, rest=begins[0], sign_rows=begins[1:signs + 1],
            place_rows=begins[signs + 1:], stages=stages,
        )

    def __eq__(self, other):
        return (
            isinstance(other, Net) and self.signs == other.signs and self.n == other.n
            and self.width == other.width and self._rest_row == other._rest_row
            and self._sign_rows == other._sign_rows and self._place_rows == other._place_rows
            and self._stages == other._stages
        )

    def __repr__(self):
        return f"Net({self.width} columns, {len(self._stages)} stages)"
