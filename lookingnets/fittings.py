"""Fittings: programs, nets and charts that the judge accepts."""

from lookingnets.charts import Chart
from lookingnets.errors import BadLine, BadText, Broken
from lookingnets.expressions import GIVEN
from lookingnets.judging import judge
from lookingnets.making import made_map, made_net
from lookingnets.nets import Net, renumbered_part
from lookingnets.programs import Program, new_names
from lookingnets.running import run, shown


def make(program):
    """The made fitting of a program."""
    return Fitting(program, made_net(program), made_map(program))


def part_end(lines, start, is_last):
    """The index behind the first line from a start on that is the last one of its part of a text;
    the number of the lines if there is none.
    """
    for at in range(start, len(lines)):
        if is_last(lines[at]):
            return at + 1
    return len(lines)


def is_tell(line):
    """Whether a line of a text ends the program's part."""
    return line.startswith("tell ")


def is_end(line):
    """Whether a line of a text, with or without its line feed, ends the net's part."""
    return line in ("end", "end\n")


def text_parts(text):
    """The list of the program's, the net's and the chart's part of a text, each a list of lines
    with their line feeds.
    """
    rows = text.split("\n")
    lines = [row + "\n" for row in rows[:-1]]
    if rows[-1] != "":
        lines.append(rows[-1])
    told = part_end(lines, 0, is_tell)
    ended = part_end(lines, told, is_end)
    return [lines[:told], lines[told:ended], lines[ended:]]


def read_net(lines, before):
    """The net in its part of a text, for the number of the lines ahead."""
    try:
        return Net.read("".join(lines))
    except BadText as error:
        raise BadText(before + error.line)


def read_chart(lines, before):
    """The chart in its part of a text, for the number of the lines ahead."""
    try:
        return Chart.read("".join(lines))
    except BadText as error:
        raise BadText(before + error.line)


def joined_columns(front, back):
    """The dict from the columns of the net of back, joined behind front, to the new ones; and the
    dict from the given names to the pairs that come into the entries in which their columns are.
    """
    columns = {back.chart.one: front.chart.one, back.chart.rest: front.chart.rest}
    more = {}
    free = front.net.width
    for given, name in (("sign", front.program.told), ("place", "place")):
        more[given] = []
        for value, column in back.chart.columns(given):
            known = front.chart.column(name, value)
            if known is None:
                known = free
                free = free + 1
                more[given].append((value, known))
            columns[column] = known
    for column in range(back.net.width):
        if column not in columns:
            columns[column] = free
            free = free + 1
    return (columns, more)


def joined_net(front, back, columns):
    """The net of back joined behind that of front, for the dict of back's new columns."""
    net = front.net
    stages = list(net.stages())
    for kind, parts in back.net.stages():
        stages.append((kind, [renumbered_part(kind, part, columns) for part in parts]))
    # Some columns of back become columns of front; those that do not stand behind front's.
    width = max([net.width] + [column + 1 for column in columns.values()])
    return Net(
        net.signs, net.n, width, rest=net.rest_row(), sign_rows=net.sign_rows(),
        place_rows=net.place_rows(), stages=stages,
    )


def joined_chart(front, back, columns, more):
    """The chart of back joined behind that of front, for what joined_columns gives."""
    many = len(front.net.stages())
    names = new_names(front.program.lines(), 0)
    behind = new_names(back.program.lines(), len(front.program))
    entries = []
    for name, pairs, stage in front.chart.names():
        new = list(pairs)
        if name == front.program.told:
            new = new + more["sign"]
        if name == "place":
            new = new + more["place"]
        entries.append((names[name], new, stage))
    looks = [(names[look[0]],) + look[1:] for look in front.chart.looks()]
    for name, pairs, stage in back.chart.names():
        if name not in GIVEN:
            new = [(value, columns[column]) for value, column in pairs]
            entries.append((behind[name], new, stage + many))
    for name, stage, head, scratch in back.chart.looks():
        looks.append((behind[name], stage + many, head, [columns[column] for column in scratch]))
    return Chart(front.chart.one, front.chart.rest, entries, looks)


class Fitting:
    """A program, a net and a chart that the judge accepts; a fitting never changes."""

    def __init__(self, program, net, chart):
        fault = judge(program, net, chart)
        if fault is not None:
            raise Broken(fault[0], fault[1])
        self.program = program
        self.net = net
        self.chart = chart

    def value_rows(self, text):
        """The dict from all names to the tuples of the values that the net bears for them at the
        places of a text.
        """
        rows = run(self.net, text)
        names = list(GIVEN) + self.program.names()
        return {name: shown(rows, self.chart.columns(name)) for name in names}

    def then(self, other):
        """The fitting other joined behind this one."""
        program = self.program.then(other.program)
        columns, more = joined_columns(self, other)
        net = joined_net(self, other, columns)
        return Fitting(program, net, joined_chart(self, other, columns, more))

    def text(self):
        """The text of the fitting."""
        return "".join([str(self.program), str(self.net), str(self.chart)])

    def __str__(self):
        return str(self.text())

    @staticmethod
    def read(text):
        """The fitting with a text."""
        if not isinstance(text, str):
            raise BadLine(0, "form")
        program_lines, net_lines, chart_lines = text_parts(text)
        program = Program.read("".join(program_lines))
        net = read_net(net_lines, len(program_lines))
        chart = read_chart(chart_lines, len(program_lines) + len(net_lines))
        return Fitting(program, net, chart)

    def __call__(self, text):
        return shown(run(self.net, text), self.chart.columns(self.program.told))

    def __eq__(self, other):
        return (
            isinstance(other, Fitting) and self.program == other.program
            and self.net == other.net and self.chart == other.chart
        )

    def __repr__(self):
        return f"Fitting({len(self.program)} lines, {self.net.width} columns)"
