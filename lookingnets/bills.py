"""Bills: the sizes of a net, known ahead from its program or counted in the net itself."""

from lookingnets.lines import is_look, line_names
from lookingnets.ranges import count_rows, means


def count_scratch(program, line):
    """The number of the scratch columns of a line of a program."""
    if not is_look(line):
        return 0
    return len(program.range_of(line[1])) if line[0] in ("first", "last") else 1


def count_units(program, line):
    """The number of the units of a line of a program."""
    if line[0] == "count":
        return program.n + 3
    if line[0] == "mean":
        return len(means(program.range_of(line[2]), program.n)) + 3
    if is_look(line):
        return len(program.range_of(line[1]))
    return count_rows(line, {name: program.range_of(name) for name in line_names(line)})


def greatest_steps(program):
    """The tuple of the greatest step of the lines of each layer of a program, from 0 on."""
    steps = [0] * (program.layers + 1)
    for name in program.names():
        layer, step = program.depth(name)
        steps[layer] = max(steps[layer], step)
    return tuple(steps)


class Bill:
    """The layers, heads, bends, width and units of a net; a bill never changes."""

    def __init__(self, layers, heads, bends, width, units):
        self._layers = layers
        self.heads = heads
        self.bends = tuple(bends)
        self.width = width
        self.units = units

    @property
    def layers(self):
        """The number of layers."""
        return self._layers

    @staticmethod
    def of_program(program):
        """The bill of the net that is made from a program."""
        lines = program.lines()
        heads = len([line for line in lines if is_look(line)])
        width = 2 + program.signs + program.n
        units = 0
        for line in lines:
            width = width + len(program.range_of(line[1])) + count_scratch(program, line)
            units = units + count_units(program, line)
        return Bill(program.layers, heads, greatest_steps(program), width, units)

    @staticmethod
    def of_net(net):
        """The bill of a net."""
        heads = 0
        units = 0
        bends = [0]
        for kind, parts in net.stages():
            if kind == "heads":
                heads = heads + len(parts)
                bends.append(0)
            else:
                units = units + len(parts)
                bends[-1] = bends[-1] + 1
        return Bill(net.layers, heads, bends, net.width, units)

    def __eq__(self, other):
        return (
            isinstance(other, Bill) and self._layers == other._layers and self.heads == other.heads
            and self.bends == other.bends and self.width == other.width and self.units == other.units
        )

    def __repr__(self):
        return f"Bill({self._layers} layers, {self.heads} heads, {self.units} units)"
