"""Charts: which columns of a net stand for which names, their texts, and what heads sum up by them."""

from lookingnets.errors import BadChart, BadText, NoName
from lookingnets.expressions import is_name
from lookingnets.nets import MOST_WIDTH, is_column
from lookingnets.values import (
    ZERO, ascending, is_fraction, is_number, is_value, plus, read_number, read_value, value_text,
)

LEAST_STAGE = -1
MOST_STAGE = 99
MOST_HEAD = 999


def differ(parts):
    """Whether the strings or tuples of numbers in a list are all different."""
    return len(set(parts)) == len(parts)


def is_within(value, least, greatest):
    """Whether any value is a number within these bounds."""
    return is_number(value) and least <= value <= greatest


def are_columns(value):
    """Whether any value is a list or tuple of columns that a chart may have."""
    if not isinstance(value, (list, tuple)):
        return False
    return all([is_column(column, MOST_WIDTH) for column in value])


def is_column_pair(value):
    """Whether any value is a pair of a value and a column."""
    if not isinstance(value, tuple) or len(value) != 2:
        return False
    return is_value(value[0]) and is_column(value[1], MOST_WIDTH)


def is_entry(value):
    """Whether any value is the entry of a name, with its pairs in any order."""
    if not isinstance(value, tuple) or len(value) != 3 or not is_name(value[0]):
        return False
    pairs = value[1]
    if not isinstance(pairs, (list, tuple)) or not all([is_column_pair(pair) for pair in pairs]):
        return False
    return differ([pair[0] for pair in pairs]) and is_within(value[2], LEAST_STAGE, MOST_STAGE)


def is_look_entry(value):
    """Whether any value is a look entry, with its columns in any order."""
    if not isinstance(value, tuple) or len(value) != 4 or not is_name(value[0]):
        return False
    if not is_within(value[1], 0, MOST_STAGE) or not is_within(value[2], 0, MOST_HEAD):
        return False
    return are_columns(value[3])


def are_entries(value):
    """Whether any value is a list or tuple of entries with different names."""
    if not isinstance(value, (list, tuple)) or not all([is_entry(entry) for entry in value]):
        return False
    return differ([entry[0] for entry in value])


def are_look_entries(value, known):
    """Whether any value is a list or tuple of look entries with different names that are known."""
    if not isinstance(value, (list, tuple)) or not all([is_look_entry(look) for look in value]):
        return False
    return differ([look[0] for look in value]) and all([look[0] in known for look in value])


def normal_entry(entry):
    """An entry with its pairs in a tuple, by ascending values."""
    name, pairs, stage = entry
    columns = {value: column for value, column in pairs}
    return (name, tuple([(value, columns[value]) for value in ascending(list(columns))]), stage)


def normal_look(look):
    """A look entry with its columns in an ascending tuple."""
    return look[:3] + (tuple(sorted(look[3])),)


def by_name(entries):
    """The list of entries, or of look entries, by ascending names."""
    return sorted(entries, key=lambda entry: entry[0])


def own_columns(entries, looks):
    """The list of the columns of all names, and of all scratch columns."""
    columns = [column for entry in entries for _, column in entry[1]]
    return columns + [column for look in looks for column in look[3]]


def column_list(chart, name):
    """The list of the columns of a name."""
    return [column for _, column in chart.columns(name)]


def read_ends(row):
    """The columns one and rest in the first line of a chart; None if it cannot stand."""
    words = row.split(" ")
    if len(words) != 3 or words[0] != "chart":
        return None
    one, rest = [read_number(word) for word in words[1:]]
    return (one, rest) if are_columns([one, rest]) and one != rest else None


def read_column_pair(word):
    """The pair that a word writes out, with None for each part that cannot stand."""
    value, _, column = word.partition(":")
    return (read_value(value), read_number(column))


def read_entry(row):
    """The entry in a line of a chart; None if it cannot stand as one."""
    words = row.split(" ")
    if len(words) < 3 or words[0] != "name":
        return None
    entry = (words[1], tuple([read_column_pair(word) for word in words[3:]]), read_number(words[2]))
    return entry if is_entry(entry) and normal_entry(entry) == entry else None


def read_look(row):
    """The look entry in a line of a chart; None if it cannot stand as one."""
    words = row.split(" ")
    if len(words) < 4 or words[0] != "look":
        return None
    numbers = [read_number(word) for word in words[2:]]
    look = (words[1], numbers[0], numbers[1], tuple(numbers[2:]))
    return look if is_look_entry(look) and normal_look(look) == look else None


def is_behind(entry, before):
    """Whether the name of an entry or look entry is behind those of the ones ahead of it."""
    return len(before) == 0 or before[-1][0] < entry[0]


def read_rows(rows, ends):
    """The entries and the look entries in the lines behind the first one, and the index of `end`."""
    entries = []
    looks = []
    known = {}
    seen = {column: True for column in ends}
    for at in range(1, len(rows)):
        if rows[at] == "end":
            return (entries, looks, at)
        entry = read_entry(rows[at])
        look = read_look(rows[at])
        if entry is not None and len(looks) == 0 and is_behind(entry, entries):
            entries.append(entry)
            known[entry[0]] = True
            columns = own_columns([entry], [])
        elif look is not None and look[0] in known and is_behind(look, looks):
            looks.append(look)
            columns = own_columns([], [look])
        else:
            raise BadText(at)
        for column in columns:
            if column in seen:
                raise BadText(at)
            seen[column] = True
    raise BadText(len(rows))


class Chart:
    """What the columns of a net mean; a chart never changes."""

    def __init__(self, one, rest, names, looks=()):
        if not is_column(one, MOST_WIDTH):
            raise BadChart("one")
        if not is_column(rest, MOST_WIDTH):
            raise BadChart("rest")
        if not are_entries(names):
            raise BadChart("names")
        self._tables = {name: {value: column for value, column in pairs} for name, pairs, _ in names}
        if not are_look_entries(looks, self._tables):
            raise BadChart("looks")
        if not differ([one, rest] + own_columns(names, looks)):
            raise BadChart("columns")
        self.one = one
        self.rest = rest
        self._names = tuple([normal_entry(entry) for entry in by_name(names)])
        self._looks = tuple([normal_look(look) for look in by_name(looks)])
        self._entries = {entry[0]: entry for entry in self._names}
        self._look_entries = {look[0]: look for look in self._looks}

    def names(self):
        """The tuple of the entries, by ascending names."""
        return self._names

    def looks(self):
        """The tuple of the look entries, by ascending names."""
        return self._looks

    def _check_name(self, name):
        """Raises an error unless any value is a name with an entry."""
        if not isinstance(name, str) or name not in self._entries:
            raise NoName(name)

    def columns(self, name):
        """The tuple of the pairs of a value and its column, of a name."""
        self._check_name(name)
        return self._entries[name][1]

    def stage(self, name):
        """The stage of the entry of a name."""
        self._check_name(name)
        return self._entries[name][2]

    def column(self, name, value):
        """The column of a value of a name; None for any value that has none."""
        self._check_name(name)
        return self._tables[name].get(value) if is_fraction(value) else None

    def look(self, name):
        """The tuple of the stage, the head and the scratch columns of a name's look entry."""
        if not isinstance(name, str) or name not in self._look_entries:
            raise NoName(name)
        return self._look_entries[name][1:]

    def charted(self):
        """The ascending list of all charted columns."""
        return sorted([self.one, self.rest] + own_columns(self._names, self._looks))

    def text(self):
        """The text of the chart."""
        rows = [["chart", str(self.one), str(self.rest)]]
        for name, pairs, stage in self._names:
            words = [f"{value_text(value)}:{column}" for value, column in pairs]
            rows.append(["name", name, str(stage)] + words)
        for name, stage, head, scratch in self._looks:
            rows.append(["look", name, str(stage), str(head)] + [str(column) for column in scratch])
        rows.append(["end"])
        return "".join([" ".join(words) + "\n" for words in rows])

    def __str__(self):
        return str(self.text())

    @staticmethod
    def read(text):
        """The chart with a text."""
        if not isinstance(text, str):
            raise BadText(0)
        rows = text.split("\n")
        # Whether the text ends too early or a line lacks its line feed, it is this line that is told.
        behind = rows.pop()
        ends = read_ends(rows[0]) if rows else None
        if ends is None:
            raise BadText(0)
        entries, looks, last = read_rows(rows, ends)
        if last + 1 < len(rows) or behind != "":
            raise BadText(last + 1)
        return Chart(ends[0], ends[1], entries, looks)

    def __eq__(self, other):
        return (
            isinstance(other, Chart) and self.one == other.one and self.rest == other.rest
            and self._names == other._names and self._looks == other._looks
        )

    def __len__(self):
        return len(self._names)

    def __bool__(self):
        return True

    def __repr__(self):
        return f"Chart({len(self._names)} names)"


class HeadSums:
    """What the head of a look sums up, for values of the names that stand for its K and Q."""

    def __init__(self, net, chart, name, key, query):
        stage, head, scratch = chart.look(name)
        scores, givings = net.stages()[stage][1][head]
        self._scores = {(here, there): factor for here, there, factor in scores}
        self._givings = {(to, source): factor for to, source, factor in givings}
        self._one = chart.one
        self._rest = chart.rest
        self._scratch = scratch
        self._keys = {value: column for value, column in chart.columns(key)}
        self._queries = {value: column for value, column in chart.columns(query)}
        self._places = {value: column for value, column in chart.columns("place")}

    def score_at(self, b, a, u):
        """The score s(b, a, u)."""
        # A dict, since K may be place itself, and its column counts once.
        theres = {self._keys[a]: True, self._places[(u, 1)]: True, self._one: True}
        return self._score_sum(b, list(theres))

    def score_at_rest(self, b):
        """The score r(b)."""
        return self._score_sum(b, [self._one, self._rest])

    def _score_sum(self, b, theres):
        """The sum of the factors of the scores from b's column, or one, to some columns."""
        total = ZERO
        for here in (self._queries[b], self._one):
            for there in theres:
                total = plus(total, self._scores.get((here, there), ZERO))
        return total

    def scratch_from(self, sources):
        """The tuple of the sums of the factors of the givings from some columns to each scratch
        column.
        """
        sums = []
        for to in self._scratch:
            total = ZERO
            for source in sources:
                total = plus(total, self._givings.get((to, source), ZERO))
            sums.append(total)
        return tuple(sums)
