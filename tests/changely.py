"""Fittings that are changed and joined in another way than the program does, straight from the words
of [15] to [17], [33] and [34].

A fitting is, here, the dict of its signs, n, lines and told name, and of its net and its chart, which
are the dicts of makely.
"""

import itertools

from tests import plainly
from tests.makely import chart_parts, parts_of, summed
from tests.plainly import pair, worth

GIVEN = ("sign", "place")


def bundle(fitting):
    """The dict of a fitting of the program."""
    return {"signs": fitting.program.signs, "n": fitting.program.n, "lines": fitting.program.lines(),
            "told": fitting.program.told, "net": parts_of(fitting.net), "chart": chart_parts(fitting.chart)}


def normal(items):
    """Entries or triples in normal form."""
    return summed([item[:-1] + (worth(item[-1]),) for item in items])


def normal_net(net):
    """A net with all its parts in normal form."""
    stages = []
    for kind, parts in net["stages"]:
        if kind == "heads":
            stages.append((kind, tuple((normal(scores), normal(givings)) for scores, givings in parts)))
        else:
            stages.append((kind, tuple((normal(terms), shift, normal(givings)) for terms, shift, givings in parts)))
    rows = {key: tuple(normal(row) for row in net[key]) for key in ("sign_rows", "place_rows")}
    return {**net, **rows, "rest": normal(net["rest"]), "stages": tuple(stages)}


def normal_chart(chart):
    """A chart with its parts in order."""
    names = [(name, tuple(sorted(pairs, key=lambda part: worth(part[0]))), stage)
             for name, pairs, stage in chart["names"]]
    looks = [(name, stage, head, tuple(sorted(scratch))) for name, stage, head, scratch in chart["looks"]]
    return {**chart, "names": tuple(sorted(names)), "looks": tuple(sorted(looks))}


def ready(some):
    """A fitting whose net and chart are in normal form and order."""
    return {**some, "net": normal_net(some["net"]), "chart": normal_chart(some["chart"])}


def every_item(net, change):
    """A net in which each list of entries or triples is changed by a function of what it is - begin,
    scores, head givings, terms or unit givings - and of its items.
    """
    def part_of(kind, part):
        if kind == "heads":
            return (change("scores", part[0]), change("head givings", part[1]))
        return (change("terms", part[0]), part[1], change("unit givings", part[2]))

    return {
        **net, "rest": change("begin", net["rest"]),
        "sign_rows": [change("begin", row) for row in net["sign_rows"]],
        "place_rows": [change("begin", row) for row in net["place_rows"]],
        "stages": [(kind, [part_of(kind, part) for part in parts]) for kind, parts in net["stages"]],
    }


def renumbered(net, chart, new):
    """A net and a chart with each column changed by a function; items for which one is None go."""
    def change(_, items):
        found = [tuple(new(column) for column in item[:-1]) + item[-1:] for item in items]
        return [item for item in found if None not in item]

    names = [(name, [(value, new(column)) for value, column in pairs], stage)
             for name, pairs, stage in chart["names"]]
    looks = [(name, stage, head, [new(column) for column in scratch])
             for name, stage, head, scratch in chart["looks"]]
    return every_item(net, change), {"one": new(chart["one"]), "rest": new(chart["rest"]),
                                     "names": names, "looks": looks}


def moved(some, order):
    net, chart = renumbered(some["net"], some["chart"], list(order).index)
    return ready({**some, "net": net, "chart": chart})


def scaled(some, column, factor):
    x = worth(factor)

    def change(kind, items):
        found = []
        for item in items:
            power = 0
            if kind in ("begin", "unit givings"):
                power = int(item[0] == column)
            elif kind == "head givings":
                power = int(item[0] == column) - int(item[1] == column)
            else:
                power = -list(item[:-1]).count(column)
            found.append(item[:-1] + (pair(worth(item[-1]) * x ** power),))
        return found

    return ready({**some, "net": every_item(some["net"], change)})


def with_scores(some, stage, head, scores):
    """A fitting with other scores of a head."""
    stages = [(kind, list(parts)) for kind, parts in some["net"]["stages"]]
    stages[stage][1][head] = (scores, stages[stage][1][head][1])
    return ready({**some, "net": {**some["net"], "stages": stages}})


def lifted(some, stage, head, factor):
    scores = some["net"]["stages"][stage][1][head][0]
    return with_scores(some, stage, head, [(a, b, pair(worth(x) * worth(factor))) for a, b, x in scores])


def shifted(some, stage, head, amount):
    scores = some["net"]["stages"][stage][1][head][0]
    one = some["chart"]["one"]
    return with_scores(some, stage, head, [(one, one, amount)] + list(scores))


def columns_of(chart, name):
    """The columns of a name."""
    return {column for known, pairs, _ in chart["names"] if known == name for _, column in pairs}


def serves(chart, unit, names):
    """Whether a unit gives to a column of one of some names."""
    return any(at in columns_of(chart, name) for at, _ in unit[2] for name in names)


def with_stage(chart, new, new_look):
    """A chart with new stages, by functions of a name and its stage."""
    return {**chart, "names": [(name, pairs, new(name, stage)) for name, pairs, stage in chart["names"]],
            "looks": [(name, new_look(stage), head, scratch) for name, stage, head, scratch in chart["looks"]]}


def parted(some, stage, names):
    chart, stages = some["chart"], list(some["net"]["stages"])
    units = stages[stage][1]
    stages[stage] = ("bend", [unit for unit in units if not serves(chart, unit, names)])
    stages.insert(stage + 1, ("bend", [unit for unit in units if serves(chart, unit, names)]))
    chart = with_stage(chart, lambda name, at: at + (at > stage or name in names), lambda at: at + (at > stage))
    return ready({**some, "net": {**some["net"], "stages": stages}, "chart": chart})


def later(some, name):
    chart, stages = some["chart"], list(some["net"]["stages"])
    stage = {known: at for known, _, at in chart["names"]}[name]
    units, behind = stages[stage][1], stages[stage + 1][1]
    stages[stage] = ("bend", [unit for unit in units if not serves(chart, unit, [name])])
    stages[stage + 1] = ("bend", [*behind, *[unit for unit in units if serves(chart, unit, [name])]])
    chart = with_stage(chart, lambda known, at: at + (known == name), lambda at: at)
    return ready({**some, "net": {**some["net"], "stages": stages}, "chart": chart})


def pruned(some):
    net, chart, told = some["net"], some["chart"], some["told"]
    needed = {told} | plainly.behind(told, some["lines"])
    lines = [line for line in some["lines"] if line[1] in needed]
    lost = [line[1] for line in some["lines"] if line[1] not in needed]
    gone = {column for name in lost for column in columns_of(chart, name)}
    gone |= {column for look in chart["looks"] if look[0] in lost for column in look[3]}
    kept = [column for column in range(net["width"]) if column not in gone]
    heads_kept = {look[1:3] for look in chart["looks"] if look[0] not in lost}
    heads_gone = {look[1:3] for look in chart["looks"] if look[0] in lost} - heads_kept
    # Each part is marked with its old place, so that those that stay tell where they are.
    marked = []
    for at, (kind, parts) in enumerate(net["stages"]):
        names = [name for name, _, stage in chart["names"] if name in lost and stage == at]
        left = []
        for index, part in enumerate(parts):
            if kind == "heads" and (at, index) in heads_gone:
                continue
            if kind == "bend" and serves(chart, part, names) and not [
                    giving for giving in part[2] if giving[0] not in gone]:
                continue
            left.append((index, part))
        if left:
            marked.append((at, kind, left))
    stage_at = {at: new for new, (at, _, _) in enumerate(marked)} | {-1: -1}
    head_at = {(at, index): new for at, _, left in marked for new, (index, _) in enumerate(left)}
    chart = {
        **chart,
        "names": [(name, pairs, stage_at[stage]) for name, pairs, stage in chart["names"] if name not in lost],
        "looks": [(name, stage_at[stage], head_at[stage, head], scratch)
                  for name, stage, head, scratch in chart["looks"] if name not in lost]}
    net = {**net, "width": len(kept), "stages": [(kind, [part for _, part in left]) for _, kind, left in marked]}
    net, chart = renumbered(net, chart, lambda column: kept.index(column) if column in kept else None)
    return ready({**some, "lines": lines, "net": net, "chart": chart})


def restricted(lines, old, given, n):
    """Lines restricted from old ranges to new ones of the given names; all ranges are dicts."""
    new, found = dict(given), []
    for line in lines:
        if line[0] == "table":
            rows = itertools.product(*[old[name] for name in line[2]])
            values = tuple(value for row, value in zip(rows, line[3])
                           if all(x in new[name] for name, x in zip(line[2], row)))
            line = line[:3] + (values,)
        elif line[0] != "be":
            at = 3 if line[0] == "count" else 4
            if not isinstance(line[at], str):
                pairs = tuple((a, b) for a, b in line[at]
                              if worth(a) in new[line[at - 1]] and worth(b) in new[line[at + 1]])
                line = line[:at] + (pairs,) + line[at + 1:]
        new[line[1]] = plainly.range_of(line, new, n)
        found.append(line)
    return found


def shortened(some, m):
    old = plainly.ranges_of(some["signs"], some["n"], some["lines"])
    lines = restricted(some["lines"], old, plainly.ranges_of(some["signs"], m, []), m)
    net = {**some["net"], "n": m, "place_rows": some["net"]["place_rows"][:m]}
    return ready({**some, "n": m, "lines": lines, "net": net})


def renamed(line, names):
    """A line with other names."""
    def new(part):
        if isinstance(part, str):
            return names.get(part, part)
        return tuple(new(word) for word in part) if line[0] in ("be", "table") and all(
            isinstance(word, str) for word in part) else part
    return line[:1] + tuple(new(part) for part in line[1:])


def joined_lines(front, back):
    """The lines and the told name of back's program joined behind front's."""
    many = len(front["lines"])
    ahead = {line[1]: f"v{at}" for at, line in enumerate(front["lines"])}
    behind = {line[1]: f"v{many + at}" for at, line in enumerate(back["lines"])}
    told = ahead.get(front["told"], front["told"])
    old = plainly.ranges_of(back["signs"], back["n"], back["lines"])
    ranges = plainly.ranges_of(front["signs"], front["n"], front["lines"])
    given = {"sign": ranges[front["told"]], "place": ranges["place"]}
    lines = [renamed(line, ahead) for line in front["lines"]]
    lines += [renamed(line, {**behind, "sign": told}) for line in restricted(back["lines"], old, given, back["n"])]
    return lines, {**behind, "sign": told}.get(back["told"], back["told"]), ahead, behind


def joined(front, back):
    """The fitting of back joined behind that of front."""
    lines, told, ahead, behind = joined_lines(front, back)
    net, chart, other = front["net"], front["chart"], back["chart"]
    entries = {name: list(pairs) for name, pairs, _ in chart["names"]}
    places = {other["one"]: chart["one"], other["rest"]: chart["rest"]}
    free = itertools.count(net["width"])
    for given, name in (("sign", front["told"]), ("place", "place")):
        for value, column in sorted(next(pairs for known, pairs, _ in other["names"] if known == given),
                                    key=lambda part: worth(part[0])):
            if value not in dict(entries[name]):
                entries[name].append((value, next(free)))
            places[column] = dict(entries[name])[value]
    for column in range(back["net"]["width"]):
        if column not in places:
            places[column] = next(free)
    more, other = renumbered(back["net"], other, places.get)
    shift = len(net["stages"])
    names = [(ahead.get(name, name), entries[name], stage) for name, _, stage in chart["names"]]
    names += [(behind[name], pairs, stage + shift) for name, pairs, stage in other["names"] if name not in GIVEN]
    looks = [(ahead[look[0]],) + look[1:] for look in chart["looks"]]
    looks += [(behind[name], stage + shift, head, scratch) for name, stage, head, scratch in other["looks"]]
    width = next(free)
    return ready({
        "signs": front["signs"], "n": front["n"], "lines": lines, "told": told,
        "net": {**net, "width": width, "stages": [*net["stages"], *more["stages"]]},
        "chart": {"one": chart["one"], "rest": chart["rest"], "names": names, "looks": looks}})
