"""Programs: lines that stand, their depths, and the programs that are made from programs."""

from lookingnets.errors import BadChange, BadLine, NoName
from lookingnets.expressions import is_name
from lookingnets.lines import is_line, is_look, line_names, line_text, read_line, renamed_line
from lookingnets.meaning import are_sizes, check_text, given_values, line_values
from lookingnets.ranges import line_fault, line_range, line_rule, restricted_lines
from lookingnets.values import is_number, read_number


def look_names(program):
    """The list of the own names of the looks of a program, in order."""
    return [line[1] for line in program.lines() if is_look(line)]


def longest_chain(program):
    """A chain of a program with as many looks as the program has layers."""
    chain = []
    # From the deepest look on, since each look hangs on one of the layer ahead of its own.
    for layer in range(program.layers, 0, -1):
        fitting = [name for name in look_names(program) if program.depth(name)[0] == layer]
        if chain:
            behind = program.hangs_on(chain[0])
            fitting = [name for name in fitting if name in behind]
        chain = [fitting[0]] + chain
    return chain


def is_laying(program, value):
    """Whether any value is a laying of a program."""
    names = look_names(program)
    if not isinstance(value, dict) or len(value) != len(names):
        return False
    if not all([name in value and is_number(value[name]) and value[name] >= 1 for name in names]):
        return False
    for name in names:
        looks = [other for other in program.hangs_on(name) if other in value]
        if not all([value[other] < value[name] for other in looks]):
            return False
    return True


def least_laying(program):
    """The dict from the own name of each look of a program to the layer of its depth."""
    return {name: program.depth(name)[0] for name in look_names(program)}


def given_ranges(signs, n):
    """The dict from the given names to their ranges."""
    return {
        "sign": tuple([(sign, 1) for sign in range(signs)]),
        "place": tuple([(place, 1) for place in range(n)]),
    }


def told_fault(told, ranges):
    """The word that applies to any value as the told name; the empty string if it can stand."""
    if not is_name(told):
        return "form"
    return "" if told in ranges else "unknown"


def depth_of(line, depths):
    """The pair (layer, step) of a line, for a dict with those of its names."""
    deepest = max([depths[name] for name in line_names(line)], default=(0, 0))
    if is_look(line):
        return (deepest[0] + 1, 1)
    return (deepest[0], deepest[1] + 1)


def names_behind(line, behind):
    """The ascending list of the names on which a line hangs, for a dict with those of its names."""
    found = {}
    for name in line_names(line):
        found[name] = True
        for other in behind[name]:
            found[other] = True
    return sorted(found)


def new_names(lines, start):
    """The dict from the names of lines to those they get in a joined program, from v and a start
    on; given names stay.
    """
    names = {"sign": "sign", "place": "place"}
    for at, line in enumerate(lines):
        names[line[1]] = f"v{start + at}"
    return names


def sizes_in(row):
    """The signs and the n of a program's first line; None if it is none."""
    words = row.split(" ")
    if len(words) != 3 or words[0] != "program":
        return None
    signs = read_number(words[1])
    n = read_number(words[2])
    return (signs, n) if are_sizes(signs, n) else None


def let_rows(rows):
    """The list of the rows ahead of the first one that begins with `tell `."""
    found = []
    for row in rows:
        if row.startswith("tell "):
            return found
        found.append(row)
    return found


class Program:
    """Signs, n, lines and a told name that can stand together; a program never changes."""

    MOST = 12

    def __init__(self, signs, n, lines, told):
        if not are_sizes(signs, n) or not isinstance(lines, (list, tuple)):
            raise BadLine(0, "form")
        self.signs = signs
        self.n = n
        self._lines = []
        self._ranges = given_ranges(signs, n)
        self._depths = {"sign": (0, 0), "place": (0, 0)}
        self._behind = {"sign": [], "place": []}
        self._rules = {}
        for line in lines:
            self._put(line)
        why = told_fault(told, self._ranges)
        if why != "":
            raise BadLine(len(lines) + 1, why)
        self.told = told
        self._layers = max([self._depths[name][0] for name in self._depths])

    def _put(self, line):
        """Puts one more line to those that stand already."""
        number = len(self._lines) + 1
        if not is_line(line):
            raise BadLine(number, "form")
        if number > self.MOST:
            raise BadLine(number, "many")
        name = line[1]
        if name in self._ranges:
            raise BadLine(number, "twice")
        why = line_fault(line, self._ranges, self.n)
        if why != "":
            raise BadLine(number, why)
        self._lines.append(line)
        self._rules[name] = line_rule(line, self._ranges)
        self._depths[name] = depth_of(line, self._depths)
        self._behind[name] = names_behind(line, self._behind)
        self._ranges[name] = line_range(line, self._ranges, self.n)

    def lines(self):
        """The list of the lines."""
        return list(self._lines)

    def names(self):
        """The list of the own names, in order."""
        return [line[1] for line in self._lines]

    def line_of(self, name):
        """The line that gives an own name."""
        for line in self._lines:
            if line[1] == name:
                return line
        raise NoName(name)

    def _check_name(self, name):
        """Raises an error unless any value is a name of the program."""
        if not isinstance(name, str) or name not in self._ranges:
            raise NoName(name)

    def range_of(self, name):
        """The tuple of the values of a name's range."""
        self._check_name(name)
        return self._ranges[name]

    def rule_of(self, name):
        """What the line that gives an own name does, a dict to read; see line_rule."""
        return self._rules[name]

    def depth(self, name):
        """The pair (layer, step) of a name."""
        self._check_name(name)
        return self._depths[name]

    def hangs_on(self, name):
        """The ascending list of the names on which a name hangs."""
        self._check_name(name)
        return list(self._behind[name])

    @property
    def layers(self):
        """The greatest layer of the names."""
        return self._layers

    def needed(self):
        """The list of the own names of the needed lines, in order."""
        behind = self._behind[self.told]
        return [name for name in self.names() if name == self.told or name in behind]

    def pruned(self):
        """The program with its needed lines alone."""
        lines = [self.line_of(name) for name in self.needed()]
        return Program(self.signs, self.n, lines, self.told)

    def shortened(self, n):
        """The program shortened to n places."""
        if not is_number(n) or not 1 <= n <= self.n:
            raise BadChange("places")
        given = given_ranges(self.signs, n)
        return Program(self.signs, n, restricted_lines(self._lines, self._ranges, given, n), self.told)

    def then(self, other):
        """The program other joined behind this one."""
        if self.n != other.n:
            raise BadChange("places")
        if self.told == "place":
            raise BadChange("told")
        told_range = self.range_of(self.told)
        if not all([value in other.range_of("sign") for value in told_range]):
            raise BadChange("range")
        given = {"sign": told_range, "place": self.range_of("place")}
        lines = other.lines()
        old = {name: other.range_of(name) for name in ["sign", "place"] + other.names()}
        names = new_names(self._lines, 0)
        behind_names = new_names(lines, len(self._lines))
        behind_names["sign"] = names[self.told]
        joined = [renamed_line(line, names) for line in self._lines]
        for line in restricted_lines(lines, old, given, self.n):
            joined.append(renamed_line(line, behind_names))
        return Program(self.signs, self.n, joined, behind_names[other.told])

    def text(self):
        """The text of the program."""
        rows = [f"program {self.signs} {self.n}"] + [line_text(line) for line in self._lines]
        return "".join([f"{row}\n" for row in rows]) + f"tell {self.told}\n"

    def __str__(self):
        return str(self.text())

    @staticmethod
    def read(text):
        """The program with a text."""
        if not isinstance(text, str):
            raise BadLine(0, "form")
        if text == "":
            raise BadLine(0, "missing")
        rows = text.split("\n")
        sizes = sizes_in(rows[0])
        if sizes is None or len(rows) == 1:
            raise BadLine(0, "form")
        ended = rows[1:-1]
        lets = let_rows(ended)
        # A row that is no line becomes None, so that the program itself tells the first fault.
        lines = [read_line(row) for row in lets]
        if len(lets) < len(ended):
            program = Program(sizes[0], sizes[1], lines, ended[len(lets)][5:])
            if len(lets) + 1 < len(ended) or rows[-1] != "":
                raise BadLine(len(lets) + 2, "form")
            return program
        if rows[-1] != "":
            lines.append(None)
        Program(sizes[0], sizes[1], lines, "sign")
        raise BadLine(len(rows) - 1, "missing")

    def values_at(self, text):
        """The dict from all names to the tuples of their values at the places of a text."""
        check_text(text, self.signs, self.n)
        values = given_values(text)
        for line in self._lines:
            values[line[1]] = line_values(line, self._rules[line[1]], values)
        return values

    def __call__(self, text):
        return self.values_at(text)[self.told]

    def __eq__(self, other):
        return (
            isinstance(other, Program) and self.signs == other.signs and self.n == other.n
            and self._lines == other._lines and self.told == other.told
        )

    def __len__(self):
        return len(self._lines)

    def __bool__(self):
        return True

    def __repr__(self):
        return f"Program({len(self._lines)} lines)"
