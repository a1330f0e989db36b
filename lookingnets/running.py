"""Running nets at texts: heads that look at rows, bends, and runs that are led stage by stage."""

from lookingnets.errors import BadValue, NothingLeft
from lookingnets.meaning import check_text
from lookingnets.values import ONE, ZERO, below, is_number, mean_of, plus, times


def row_with(row, gifts):
    """A row to which entries are added."""
    out = list(row)
    for column, gift in gifts:
        out[column] = plus(out[column], gift)
    return tuple(out)


def begin_rows(net, text):
    """The list of the rows of a net at a text before the first stage."""
    check_text(text, net.signs, net.n)
    empty = (ZERO,) * net.width
    signs = net.sign_rows()
    places = net.place_rows()
    rows = [row_with(empty, net.rest_row())]
    for place, sign in enumerate(text):
        rows.append(row_with(empty, signs[sign] + places[place]))
    return rows


def sum_of(row, entries):
    """The sum of a row's columns, each times its factor."""
    total = ZERO
    for column, factor in entries:
        if row[column] != ZERO:
            total = plus(total, times(row[column], factor))
    return total


def scores(rows, head, at):
    """The list of the scores of a head from the row with an index to each row."""
    looking = rows[at]
    asked = [(there, times(looking[here], factor)) for here, there, factor in head[0]]
    return [sum_of(row, asked) for row in rows]


def looked_at(rows, head, at):
    """The ascending list of the indexes of the rows at which a head looks from the row at an index."""
    found = scores(rows, head, at)
    greatest = found[0]
    for score in found:
        if below(greatest, score):
            greatest = score
    return [index for index, score in enumerate(found) if score == greatest]


def head_gifts(rows, head, at):
    """The list of the entries that a head gives to the row at an index."""
    looked = [rows[index] for index in looked_at(rows, head, at)]
    gifts = []
    for to, source, factor in head[1]:
        gifts.append((to, times(factor, mean_of([row[source] for row in looked]))))
    return gifts


def heads_done(rows, heads):
    """The list of the rows behind a heads stage."""
    out = []
    for at, row in enumerate(rows):
        gifts = [gift for head in heads for gift in head_gifts(rows, head, at)]
        out.append(row_with(row, gifts))
    return out


def unit_gifts(row, unit):
    """The list of the entries that a unit gives to a row."""
    terms, shift, givings = unit
    z = plus(shift, sum_of(row, terms))
    if not below(ZERO, z):
        return []
    return [(column, times(z, factor)) for column, factor in givings]


def bend_done(rows, units):
    """The list of the rows behind a bend."""
    out = []
    for row in rows:
        gifts = [gift for unit in units for gift in unit_gifts(row, unit)]
        out.append(row_with(row, gifts))
    return out


def stage_done(rows, stage):
    """The list of the rows behind a stage."""
    kind, parts = stage
    return heads_done(rows, parts) if kind == "heads" else bend_done(rows, parts)


def run(net, text):
    """The list of the rows of a net at a text behind the last stage."""
    rows = begin_rows(net, text)
    for stage in net.stages():
        rows = stage_done(rows, stage)
    return rows


def run_stages(net, text):
    """The lists of the rows of a net at a text, before the first stage and behind each one."""
    rows = begin_rows(net, text)
    yield list(rows)
    for stage in net.stages():
        rows = stage_done(rows, stage)
        yield list(rows)


def shown_in(row, columns):
    """The value whose column alone holds something in a row, and this is 1; otherwise None."""
    held = [(value, row[column]) for value, column in columns if row[column] != ZERO]
    return held[0][0] if len(held) == 1 and held[0][1] == ONE else None


def shown(rows, columns):
    """The tuple of what is shown at each place, for a list of pairs of a value and its column."""
    return tuple([shown_in(row, columns) for row in rows[1:]])


class Runner:
    """A run of a net at a text, led stage by stage."""

    def __init__(self, net, text):
        rows = begin_rows(net, text)
        self.net = net
        self._text = tuple(text)
        self._stages = net.stages()
        # The rows before the first stage, and behind each one that is done, so that back finds them.
        self._past = [rows]

    @property
    def done(self):
        """The number of stages that are done."""
        return len(self._past) - 1

    def text(self):
        """The tuple of the signs."""
        return self._text

    def rows(self):
        """The list of the rows."""
        return list(self._past[-1])

    def row(self, place=None):
        """The row of a place, or of the resting place."""
        rows = self._past[-1]
        if place is None:
            return rows[0]
        if not is_number(place) or not 0 <= place < len(self._text):
            raise BadValue(place)
        return rows[place + 1]

    def step(self):
        """Does the next stage."""
        if self.done == len(self._stages):
            raise NothingLeft()
        self._past.append(stage_done(self._past[-1], self._stages[self.done]))

    def back(self):
        """Takes back the stage that was done last."""
        if self.done == 0:
            raise NothingLeft()
        self._past.pop()

    def finish(self):
        """Does all stages that are left, and returns their number."""
        left = len(self._stages) - self.done
        for _ in range(left):
            self.step()
        return left

    def twin(self):
        """An independent runner in the same state."""
        other = Runner(self.net, self._text)
        other._past = list(self._past)
        return other

    def __len__(self):
        return len(self._stages[len(self._past) - 1:])

    def __bool__(self):
        return True

    def __repr__(self):
        return f"Runner({self.done} of {len(self._stages)} stages)"
