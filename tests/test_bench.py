"""Points [2] and [38], and the section lookingnets/bench.py of the interface."""

import inspect
import random
import unittest
from collections import Counter

from lookingnets.bench import Bench
from lookingnets.errors import BadChange, BadDeed, BadLine, NoName, NothingLeft, TooMany, Twice
from lookingnets.fittings import Fitting, make
from lookingnets.programs import Program
from tests import changely, plainly
from tests.growing import grown
from tests.kinds import any_values
from tests.makely import Made
from tests.test_changes import EXPRESSIONS_FITTING, SHARED, tried_change
from tests.test_fittings import read, values_due
from tests.test_making import EXPRESSIONS, EXPRESSIONS_CHART, EXPRESSIONS_NET

METHODS = {
    "__init__": ["self"], "do": ["self", "deeds"], "tried": ["self", "deeds"], "undo": ["self"],
    "redo": ["self"], "kept": ["self", "name"], "has": ["self", "name"], "names": ["self"],
    "history": ["self"], "report": ["self"], "twin": ["self"],
}
LIKE = read(2, 4, "let c count where sign = sign", "tell c")
TURN = read(2, 4, "let a be - 1 sign", "tell a")
SIGN = read(2, 4, "tell sign")
EXPRESSIONS_PROGRAM = Program.read(EXPRESSIONS)
# What each error tells.
ERRORS = {"BadDeed": ["at"], "Twice": ["name"], "NoName": ["name"], "TooMany": ["what", "count"],
          "BadChange": ["what"], "BadLine": ["line", "why"], "NothingLeft": []}


def made_bundle(program):
    """The dict of the made fitting of a program, counted in another way."""
    made = Made(program.signs, program.n, program.lines())
    return changely.ready({"signs": program.signs, "n": program.n, "lines": program.lines(), "told": program.told,
                           "net": made.net(), "chart": made.chart()})


def behind(model, deed):
    """The dict from names to the dicts of their fittings behind a deed, counted in another way."""
    model = dict(model)
    word, name, *values = deed
    if word == "put":
        model[name] = made_bundle(values[0])
    elif word == "join":
        model[name] = changely.joined(model[values[0]], model[values[1]])
    elif word == "copy":
        model[name] = model[values[0]]
    elif word == "drop":
        del model[name]
    else:
        model[name] = getattr(changely, word)(model[name], *values)
    return model


def report_line(name, some):
    """The line of the report for the dict of a fitting."""
    stages = some["net"]["stages"]
    heads = [parts for kind, parts in stages if kind == "heads"]
    units = [parts for kind, parts in stages if kind == "bend"]
    return f"{name} {len(heads)} {sum(map(len, heads))} {sum(map(len, units))} {some['net']['width']}"


class Benches(unittest.TestCase):
    def state(self, bench):
        """All that a bench tells, but for what can be redone."""
        return ({name: bench.kept(name).text() for name in bench.names()}, bench.names(), bench.history(),
                bench.report(), len(bench), repr(bench))

    def raises(self, bench, due, call, *values):
        """Asserts that a call raises an error, and what it tells, and that it changes nothing."""
        before = self.state(bench)
        with self.assertRaises((BadDeed, Twice, NoName, TooMany, BadChange, BadLine, NothingLeft)) as caught:
            call(*values)
        error = caught.exception
        self.assertEqual((error.code,) + tuple(getattr(error, name) for name in ERRORS[error.code]), due)
        self.assertEqual(self.state(bench), before)

    def refuses(self, bench, due, *deeds):
        """Asserts that deeds raise an error, done and tried."""
        self.raises(bench, due, bench.do, *deeds)
        self.raises(bench, due, bench.tried, *deeds)

    def holds(self, bench, model):
        """Asserts the fittings of a bench, by the dict of their dicts."""
        self.assertEqual(bench.names(), sorted(model))
        self.assertEqual({name: changely.bundle(bench.kept(name)) for name in model}, model)
        self.assertEqual(bench.report(), [report_line(name, model[name]) for name in sorted(model)])
        self.assertEqual((len(bench), repr(bench)), (len(model), f"Bench({len(model)} fittings)"))


class Interface(Benches):
    def test_methods(self):
        self.assertEqual(Bench.__module__, "lookingnets.bench")
        for name, parameters in METHODS.items():
            self.assertIn(name, vars(Bench))
            self.assertEqual(list(inspect.signature(getattr(Bench, name)).parameters), parameters)
        for name in ["do", "tried"]:
            deeds = inspect.signature(getattr(Bench, name)).parameters["deeds"]
            self.assertEqual(deeds.kind, inspect.Parameter.VAR_POSITIONAL)
        for name in ["__len__", "__repr__"]:
            self.assertIn(name, vars(Bench))
        self.assertEqual((Bench.MOST, Bench().MOST), (8, 8))

    def test_parameters_by_name(self):
        bench = Bench()
        bench.do(("put", "a", SIGN))
        self.assertEqual(bench.kept(name="a"), make(SIGN))
        self.assertIs(bench.has(name="a"), True)

    def test_empty(self):
        bench = Bench()
        self.assertEqual(self.state(bench), ({}, [], [], [], 0, "Bench(0 fittings)"))
        self.assertIs(bool(bench), True)
        self.raises(bench, ("NothingLeft",), bench.undo)
        self.raises(bench, ("NothingLeft",), bench.redo)
        self.assertIs(bench.has("a"), False)


class Deeds(Benches):
    def test_put_copy_and_drop(self):
        bench = Bench()
        self.assertIsNone(bench.do(("put", "b", LIKE), ("put", "let", TURN), ("copy", "a9", "b")))
        self.holds(bench, {"b": made_bundle(LIKE), "let": made_bundle(TURN), "a9": made_bundle(LIKE)})
        self.assertEqual(bench.names(), ["a9", "b", "let"])
        self.assertIs(type(bench.kept("b")), Fitting)
        self.assertEqual(bench.report(), ["a9 1 1 7 14", "b 1 1 7 14", "let 0 0 2 10"])
        bench.do(("drop", "b"))
        self.holds(bench, {"let": made_bundle(TURN), "a9": made_bundle(LIKE)})
        bench.do(("put", "b", SIGN), ("drop", "a9"), ("drop", "let"))
        self.holds(bench, {"b": made_bundle(SIGN)})

    def test_copies_change_apart(self):
        bench = Bench()
        bench.do(("put", "a", LIKE), ("copy", "b", "a"), ("lifted", "a", 0, 0, (2, 1)))
        self.holds(bench, {"a": changely.lifted(made_bundle(LIKE), 0, 0, (2, 1)), "b": made_bundle(LIKE)})

    def test_join(self):
        bench = Bench()
        bench.do(("put", "a", TURN), ("put", "b", LIKE), ("join", "c", "a", "b"), ("join", "d", "a", "a"))
        model = {"a": made_bundle(TURN), "b": made_bundle(LIKE)}
        model |= {"c": changely.joined(model["a"], model["b"]), "d": changely.joined(model["a"], model["a"])}
        self.holds(bench, model)
        self.assertEqual(bench.kept("c").program, read(2, 4, "let v0 be - 1 sign", "let v1 count where v0 = v0", "tell v1"))
        self.assertEqual(bench.kept("c")([0, 0, 1]), ((2, 1), (2, 1), (1, 1)))

    def test_changes(self):
        start = changely.bundle(EXPRESSIONS_FITTING)
        for values in [
            ("moved", list(range(10, -1, -1))), ("moved", tuple(range(10, -1, -1))), ("parted", 0, ["c", "a"]),
            ("parted", 0, ("b",)), ("later", "a"), ("pruned",), ("shortened", 1),
        ]:
            bench = Bench()
            bench.do(("put", "x", EXPRESSIONS_PROGRAM), ("put", "y", LIKE))
            bench.do((values[0], "x") + values[1:])
            self.holds(bench, {"x": getattr(changely, values[0])(start, *values[1:]), "y": made_bundle(LIKE)})
        start = made_bundle(LIKE)
        for values in [("scaled", 8, (3, 2)), ("lifted", 0, 0, (3, 2)), ("shifted", 0, 0, (-3, 2)), ("shortened", 2)]:
            bench = Bench()
            bench.do(("put", "x", LIKE))
            bench.do((values[0], "x") + values[1:])
            self.holds(bench, {"x": getattr(changely, values[0])(start, *values[1:])})
        # A stage and a head that are not the same.
        program = read(2, 2, "let a be sign", "let c count where a = sign", "let f first a where a = a else 0", "tell f")
        for word in ("lifted", "shifted"):
            for head in (0, 1):
                bench = Bench()
                bench.do(("put", "x", program), (word, "x", 1, head, (3, 2)))
                self.holds(bench, {"x": getattr(changely, word)(made_bundle(program), 1, head, (3, 2))})
        bench = Bench()
        bench.do(("put", "x", EXPRESSIONS_PROGRAM), ("parted", "x", 0, ["a"]))
        due = EXPRESSIONS_NET.replace("unit 1 1:-1 > 5:1\n", "").replace(
            "bend\nunit -1", "bend\nunit 1 1:-1 > 5:1\nbend\nunit -1")
        chart = EXPRESSIONS_CHART.replace("name a 0", "name a 1").replace("name d 1", "name d 2")
        self.assertEqual(bench.kept("x").text(), EXPRESSIONS + due + chart)

    def test_names_in_use(self):
        bench = Bench()
        bench.do(("put", "a", LIKE))
        for value in any_values() + ["b", "A", ("a",), ["a"], "a ", b"a", LIKE, "", "sign"]:
            self.assertIs(bench.has(value), False)
            self.raises(bench, ("NoName", value), bench.kept, value)
        self.assertIs(bench.has("a"), True)
        bench.do(("drop", "a"))
        self.assertIs(bench.has("a"), False)
        self.raises(bench, ("NoName", "a"), bench.kept, "a")

    def test_returned_lists_are_new(self):
        bench = Bench()
        bench.do(("put", "a", LIKE))
        bench.names().append("b")
        bench.report().clear()
        bench.history().clear()
        bench.history()[0].append(("drop", "a"))
        self.assertEqual(self.state(bench)[1:4], (["a"], [[("put", "a", LIKE)]], ["a 1 1 7 14"]))


class NoDeeds(Benches):
    def test_what_is_no_deed(self):
        right = [
            ("put", "n", LIKE), ("join", "n", "a", "b"), ("copy", "n", "a"), ("drop", "a"), ("moved", "a", [0]),
            ("scaled", "a", 8, (1, 2)), ("lifted", "a", 0, 0, (1, 2)), ("shifted", "a", 0, 0, (1, 2)),
            ("parted", "a", 0, ["c"]), ("later", "a", "c"), ("pruned", "a"), ("shortened", "a", 2),
        ]
        wrong = any_values() + ["put", "drop", LIKE, {"drop": "a"}, ("put",), ("drop",)]
        for deed in right:
            names = {"join": 3, "copy": 2}.get(deed[0], 1)
            wrong += [list(deed), deed[:-1], deed + (0,), deed + (None,), deed + ("a",), ()]
            wrong += [(word,) + deed[1:] for word in ("puts", "", "Put", None, 0, ("put",), ["drop"], deed[0] + " ")]
            for at in range(1, names + 1):
                wrong += [deed[:at] + (name,) + deed[at + 1:] for name in (
                    "", "A", "a_", "1a", "abcdefg", "a ", "a\n", None, True, 0, ("a",), ["a"], b"a", LIKE)]
        wrong += [("put", "n", program) for program in (None, make(LIKE), LIKE.text(), [LIKE], (LIKE,), 0, "a")]
        bench = Bench()
        bench.do(("put", "a", LIKE), ("put", "b", TURN))
        for value in wrong:
            self.refuses(bench, ("BadDeed", 0), value)
            self.refuses(bench, ("BadDeed", 1), ("put", "c", SIGN), value)
            # Ahead of the errors of the deeds ahead of it.
            self.refuses(bench, ("BadDeed", 2), ("put", "a", LIKE), ("drop", "z"), value, value)
        for deed in right:
            self.refuses(bench, ("BadDeed", 1), deed, ())

    def test_any_other_values_are_a_deeds_own(self):
        bench = Bench()
        bench.do(("put", "a", LIKE))
        for value in any_values() + [LIKE, Bench()]:
            if value not in (1,) or isinstance(value, bool):
                self.refuses(bench, ("BadChange", "places"), ("shortened", "a", value))
            self.refuses(bench, ("BadChange", "order"), ("moved", "a", value))
            self.refuses(bench, ("BadChange", "name"), ("later", "a", value if value != "a" else None))
            self.refuses(bench, ("BadChange", "column"), ("scaled", "a", value, value))
            if value != 1 or isinstance(value, bool):
                self.refuses(bench, ("BadChange", "stage"), ("parted", "a", value, value))
            if value != 0 or isinstance(value, bool):
                self.refuses(bench, ("BadChange", "stage"), ("lifted", "a", value, value, value))
                self.refuses(bench, ("BadChange", "stage"), ("shifted", "a", value, value, value))
                self.refuses(bench, ("BadChange", "head"), ("lifted", "a", 0, value, value))
            if value != (1, 2):
                self.refuses(bench, ("BadChange", "factor"), ("lifted", "a", 0, 0, value))
                self.refuses(bench, ("BadChange", "amount"), ("shifted", "a", 0, 0, value))
            self.refuses(bench, ("BadChange", "names"), ("parted", "a", 1, value))


class Errors(Benches):
    def full(self, many=8):
        """A bench with so many fittings."""
        bench = Bench()
        bench.do(*[("put", f"f{at}", (LIKE, TURN, SIGN)[at % 3]) for at in range(many)])
        return bench

    def test_twice_and_no_name(self):
        bench = self.full(2)
        self.refuses(bench, ("Twice", "f0"), ("put", "f0", SIGN))
        self.refuses(bench, ("Twice", "f0"), ("copy", "f0", "f0"))
        self.refuses(bench, ("Twice", "f1"), ("copy", "f1", "z"))
        self.refuses(bench, ("Twice", "f1"), ("join", "f1", "y", "z"))
        self.refuses(bench, ("NoName", "z"), ("copy", "a", "z"))
        self.refuses(bench, ("NoName", "a"), ("copy", "a", "a"))
        self.refuses(bench, ("NoName", "y"), ("join", "a", "y", "z"))
        self.refuses(bench, ("NoName", "z"), ("join", "a", "f0", "z"))
        self.refuses(bench, ("NoName", "y"), ("join", "a", "y", "f0"))
        for deed in [("drop", "z"), ("moved", "z", None), ("scaled", "z", None, None), ("lifted", "z", 0, 0, 0),
                     ("shifted", "z", 0, 0, 0), ("parted", "z", 0, 0), ("later", "z", 0), ("pruned", "z"),
                     ("shortened", "z", 0)]:
            self.refuses(bench, ("NoName", "z"), deed)

    def test_a_ninth_fitting(self):
        bench = self.full()
        self.assertEqual(len(bench), 8)
        due = ("TooMany", "fittings", 9)
        self.refuses(bench, due, ("put", "a", SIGN))
        self.refuses(bench, due, ("copy", "a", "f0"))
        self.refuses(bench, due, ("join", "a", "f1", "f0"))
        # Behind the names, and ahead of what the change itself tells: f0 tells up to 4.
        self.refuses(bench, due, ("join", "a", "f0", "f1"))
        self.refuses(bench, ("Twice", "f0"), ("put", "f0", SIGN))
        self.refuses(bench, ("NoName", "z"), ("copy", "a", "z"))
        self.refuses(bench, ("NoName", "z"), ("join", "a", "f0", "z"))
        self.refuses(bench, ("NoName", "z"), ("drop", "z"))
        bench.do(("drop", "f0"), ("put", "a", SIGN))
        self.assertEqual(len(bench), 8)
        bench.do(("pruned", "a"), ("shortened", "a", 2))
        self.refuses(bench, due, ("put", "b", SIGN), ("drop", "a"))
        self.refuses(self.full(7), due, ("put", "a", SIGN), ("put", "b", SIGN))

    def test_errors_of_joins(self):
        bench = Bench()
        bench.do(("put", "like", LIKE), ("put", "turn", TURN), ("put", "place", read(2, 4, "tell place")),
                 ("put", "short", read(2, 3, "tell sign")))
        self.refuses(bench, ("BadChange", "places"), ("join", "a", "place", "short"))
        self.refuses(bench, ("BadChange", "told"), ("join", "a", "place", "turn"))
        self.refuses(bench, ("BadChange", "range"), ("join", "a", "like", "turn"))
        rows = [f"let a{at} be 0" for at in range(12)]
        bench.do(("put", "full", read(2, 4, *rows, "tell a0")))
        self.refuses(bench, ("BadLine", 13, "many"), ("join", "a", "full", "turn"))

    def test_errors_of_changes(self):
        bench = Bench()
        text = SHARED.program.text()
        bench.do(("put", "x", Program.read(text)), ("put", "y", LIKE))
        self.refuses(bench, ("BadChange", "read"), ("later", "x", "c"))
        self.refuses(bench, ("BadChange", "bend"), ("later", "y", "c"))
        self.refuses(bench, ("BadChange", "factor"), ("scaled", "y", 8, (0, 1)))
        self.refuses(bench, ("BadChange", "head"), ("lifted", "y", 0, 1, (1, 1)))
        self.refuses(bench, ("BadChange", "order"), ("moved", "y", list(range(13))))

    def test_too_many_stages(self):
        bench = Bench()
        bench.do(("put", "a", read(2, 1, "let a be 1", "tell a")))
        bench.do(*[("parted", "a", at, ["a"]) for at in range(99)])
        self.assertEqual(bench.kept("a").chart.stage("a"), 99)
        self.refuses(bench, ("TooMany", "stages", 101), ("parted", "a", 99, ["a"]))
        self.assertEqual([len(deeds) for deeds in bench.history()], [1, 99])

    def test_all_or_none(self):
        bench = Bench()
        bench.do(("put", "a", LIKE))
        for deeds, due in [
            ([("put", "b", TURN), ("drop", "a"), ("put", "b", SIGN)], ("Twice", "b")),
            ([("drop", "a"), ("drop", "a")], ("NoName", "a")),
            ([("shortened", "a", 3), ("shortened", "a", 4)], ("BadChange", "places")),
            ([("drop", "a"), ("put", "a", SIGN), ("lifted", "a", 0, 0, (1, 1))], ("BadChange", "stage")),
            ([("moved", "a", list(range(13, -1, -1))), ("scaled", "a", 8, (1, 2))], ("BadChange", "column")),
        ]:
            self.refuses(bench, due, *deeds)
        # Each deed works behind the one ahead of it.
        bench.do(("drop", "a"), ("put", "a", TURN), ("copy", "b", "a"), ("join", "c", "a", "b"), ("drop", "b"))
        self.assertEqual(bench.names(), ["a", "c"])


class History(Benches):
    FIRST = [("put", "a", LIKE), ("copy", "b", "a")]
    SECOND = [("lifted", "a", 0, 0, (2, 1))]
    THIRD = [("drop", "b"), ("shortened", "a", 2)]

    def three(self):
        """A bench on which three calls were done, and its states behind each of them."""
        bench = Bench()
        states = [self.state(bench)]
        for deeds in [self.FIRST, self.SECOND, self.THIRD]:
            bench.do(*deeds)
            states.append(self.state(bench))
        return bench, states

    def test_undo_and_redo(self):
        bench, states = self.three()
        self.assertEqual(bench.history(), [self.FIRST, self.SECOND, self.THIRD])
        self.raises(bench, ("NothingLeft",), bench.redo)
        self.assertEqual(bench.undo(), self.THIRD)
        self.assertEqual(self.state(bench), states[2])
        self.assertEqual(bench.undo(), self.SECOND)
        self.assertEqual(self.state(bench), states[1])
        # Two can be redone, the one that was taken back last first.
        self.assertEqual(bench.redo(), self.SECOND)
        self.assertEqual(self.state(bench), states[2])
        self.assertEqual(bench.redo(), self.THIRD)
        self.assertEqual(self.state(bench), states[3])
        self.raises(bench, ("NothingLeft",), bench.redo)
        for due in [self.THIRD, self.SECOND, self.FIRST]:
            self.assertEqual(bench.undo(), due)
        self.assertEqual(self.state(bench), states[0])
        self.raises(bench, ("NothingLeft",), bench.undo)
        for due in [self.FIRST, self.SECOND, self.THIRD]:
            self.assertEqual(bench.redo(), due)
        self.assertEqual(self.state(bench), states[3])

    def test_a_call_in_between(self):
        bench, states = self.three()
        bench.undo()
        bench.undo()
        bench.do(("put", "z", SIGN))
        self.raises(bench, ("NothingLeft",), bench.redo)
        self.assertEqual(bench.history(), [self.FIRST, [("put", "z", SIGN)]])
        self.assertEqual(bench.undo(), [("put", "z", SIGN)])
        self.assertEqual(self.state(bench), states[1])
        self.assertEqual(bench.redo(), [("put", "z", SIGN)])

    def test_calls_that_were_not_done(self):
        bench, states = self.three()
        bench.undo()
        self.refuses(bench, ("Twice", "a"), ("put", "z", SIGN), ("put", "a", SIGN))
        self.refuses(bench, ("BadDeed", 0), None)
        self.refuses(bench, ("BadChange", "places"), ("shortened", "a", 9))
        bench.do()
        bench.tried(("put", "z", SIGN))
        bench.tried()
        self.assertEqual(self.state(bench), states[2])
        self.assertEqual(bench.redo(), self.THIRD)
        self.assertEqual(self.state(bench), states[3])

    def test_without_deeds(self):
        bench = Bench()
        self.assertIsNone(bench.do())
        self.assertEqual(bench.history(), [])
        self.raises(bench, ("NothingLeft",), bench.undo)

    def test_tried(self):
        bench, states = self.three()
        bench.undo()
        tried = bench.tried(("put", "z", SIGN), ("pruned", "a"))
        self.assertIs(type(tried), Bench)
        self.assertEqual(tried.names(), ["a", "b", "z"])
        self.assertEqual(tried.history(), [self.FIRST, self.SECOND, [("put", "z", SIGN), ("pruned", "a")]])
        self.raises(tried, ("NothingLeft",), tried.redo)
        tried.undo()
        tried.undo()
        self.assertEqual(self.state(bench), states[2])
        self.assertEqual(bench.redo(), self.THIRD)
        twin = bench.tried()
        self.assertEqual(self.state(twin), self.state(bench))
        self.assertEqual(twin.undo(), self.THIRD)
        self.assertEqual(self.state(bench), states[3])

    def test_twin(self):
        bench, states = self.three()
        bench.undo()
        twin = bench.twin()
        self.assertIs(type(twin), Bench)
        self.assertEqual(self.state(twin), states[2])
        self.assertEqual(twin.redo(), self.THIRD)
        self.assertEqual(self.state(bench), states[2])
        self.assertEqual(bench.redo(), self.THIRD)
        self.assertEqual(bench.undo(), self.THIRD)
        twin.do(("drop", "a"))
        self.assertEqual(self.state(bench), states[2])
        bench.do(("put", "z", SIGN))
        self.assertEqual(twin.names(), [])
        self.assertEqual(twin.history(), [self.FIRST, self.SECOND, self.THIRD, [("drop", "a")]])
        self.assertEqual([twin.undo(), twin.undo()], [[("drop", "a")], self.THIRD])
        self.assertEqual(self.state(twin), states[2])

    def test_deeds_are_copied(self):
        order = list(range(13, -1, -1))
        names = ["a"]
        bench = Bench()
        bench.do(("put", "x", LIKE), ("put", "y", read(2, 1, "let a be 1", "tell a")))
        bench.do(("moved", "x", order), ("parted", "y", 0, names))
        due = [("moved", "x", list(range(13, -1, -1))), ("parted", "y", 0, ["a"])]
        order.clear()
        names.append("b")
        self.assertEqual(bench.history()[1], due)
        for deed in bench.history()[1]:
            self.assertIs(type(deed), tuple)
            self.assertIs(type(deed[-1]), list)
            deed[-1].clear()
        self.assertEqual(bench.history()[1], due)
        undone = bench.undo()
        self.assertEqual(undone, due)
        self.assertIs(type(undone), list)
        undone[0][2].append(5)
        undone.pop()
        redone = bench.redo()
        self.assertEqual(redone, due)
        redone[1][3].clear()
        redone.clear()
        self.assertEqual(bench.history()[1], due)
        twin = bench.twin()
        twin.history()[1][0][2].clear()
        self.assertEqual(twin.undo(), due)
        self.assertEqual(bench.undo(), due)
        # Tuples stay tuples.
        bench.do(("moved", "x", tuple(range(14))))
        self.assertEqual(bench.history()[-1], [("moved", "x", tuple(range(14)))])


class Counted(Benches):
    def deed(self, chance, bench):
        """A deed that may be done, by chance."""
        used = bench.names()
        free = [name for name in ("a", "b", "c", "d", "let", "x9", "q", "zzzzzz", "n") if name not in used]
        kind = chance.random()
        if not used or (kind < 0.25 and len(used) < 8):
            signs, n = chance.choice([(2, 3), (2, 3), (3, 3)])
            return ("put", chance.choice(free), Program(signs, n, *grown(chance.randrange(500), signs, n, chance.randint(0, 3))))
        if kind < 0.35 and len(used) < 8:
            return ("copy", chance.choice(free), chance.choice(used))
        if kind < 0.5 and len(used) < 8:
            return ("join", chance.choice(free), chance.choice(used), chance.choice(used))
        name = chance.choice(used)
        if kind < 0.6:
            return ("drop", name)
        word, values = tried_change(chance, bench.kept(name))
        return (word, name) + values

    def test_against_another_way(self):
        done = Counter()
        for seed in range(25):
            chance = random.Random(seed)
            bench = Bench()
            past, future = [({}, None)], []
            for _ in range(25):
                kind = chance.random()
                if kind < 0.12:
                    if len(past) == 1:
                        self.raises(bench, ("NothingLeft",), bench.undo)
                    else:
                        future.append(past.pop())
                        self.assertEqual(bench.undo(), future[-1][1])
                elif kind < 0.24:
                    if not future:
                        self.raises(bench, ("NothingLeft",), bench.redo)
                    else:
                        past.append(future.pop())
                        self.assertEqual(bench.redo(), past[-1][1])
                elif kind < 0.3:
                    bench = bench.twin()
                else:
                    model, deeds = self.row(chance, bench, past[-1][0])
                    tried = bench.tried(*deeds)
                    self.holds(tried, model)
                    bench.do(*deeds)
                    if deeds:
                        past.append((model, deeds))
                        future = []
                    done.update(deed[0] for deed in deeds)
                self.holds(bench, past[-1][0])
                self.assertEqual(bench.history(), [deeds for _, deeds in past[1:]])
        self.assertEqual(len(done), 12, done)

    def row(self, chance, bench, model):
        """A row of deeds that can be done, and the fittings behind it."""
        deeds, bench = [], bench.twin()
        for _ in range(chance.randint(0, 3)):
            deed = self.deed(chance, bench)
            try:
                bench.do(deed)
            except (BadChange, BadLine):
                continue
            deeds.append(deed)
            model = behind(model, deed)
        return model, deeds

    def test_what_stays_bears_its_meaning(self):
        bench = Bench()
        bench.do(("put", "a", read(2, 3, "let a be - 1 sign", "tell a")),
                 ("put", "b", read(2, 3, "let c count where sign = sign", "let d be > c 1", "tell d")))
        bench.do(("join", "c", "a", "b"), ("join", "d", "c", "a"), ("pruned", "d"))
        bench.do(("parted", "d", 0, ["v0"]), ("shortened", "d", 2), ("lifted", "d", 2, 0, (1, 3)))
        for name in bench.names():
            fitting = bench.kept(name)
            for text in plainly.texts(2, fitting.program.n):
                self.assertEqual(fitting.value_rows(text), values_due(fitting.program, text))
        self.assertEqual([len(deeds) for deeds in bench.history()], [2, 3, 3])


if __name__ == "__main__":
    unittest.main()
