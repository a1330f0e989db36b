"""Points [1], [2], [5], [28.1] and [32], and the section lookingnets/fittings.py of the interface;
joined fittings are in test_joined_fittings.
"""

import inspect
import random
import unittest

from lookingnets import fittings
from lookingnets.charts import Chart
from lookingnets.errors import BadLine, BadText, BadValue, Broken, NoText, TooLong
from lookingnets.fittings import Fitting, make
from lookingnets.nets import Net
from lookingnets.programs import Program
from tests import plainly
from tests.growing import grown
from tests.kinds import almost, any_values
from tests.makely import Made, chart_parts, parts_of
from tests.netly import LIKE_ME
from tests.test_judging import HERE, HERE_CHART, HERE_NET, LIKE, changed
from tests.test_making import (
    ENDS, ENDS_CHART, ENDS_NET, EXPRESSIONS, EXPRESSIONS_CHART, EXPRESSIONS_NET, LIKE_ME_CHART, MEAN,
    MEAN_CHART, MEAN_NET,
)

METHODS = {
    "__init__": ["self", "program", "net", "chart"], "value_rows": ["self", "text"],
    "then": ["self", "other"], "text": ["self"], "read": ["text"], "__call__": ["self", "text"],
}
WRITTEN = [(EXPRESSIONS, EXPRESSIONS_NET, EXPRESSIONS_CHART), (ENDS, ENDS_NET, ENDS_CHART),
           (LIKE, LIKE_ME, LIKE_ME_CHART), (MEAN, MEAN_NET, MEAN_CHART), (HERE, HERE_NET, HERE_CHART)]
# Programs with each kind of line, few signs and few places.
SMALL = [
    (2, 3, ["tell place"]), (3, 2, ["tell sign"]),
    (2, 3, ["let a be + * 2 sign - place 1", "let b be if > a 0 a min a sign", "tell b"]),
    (3, 3, ["let a table sign place : 1 2 3 4 5 6 1/2 -1/3 0", "let b table : 7", "let c table a b : "
            "0 0 1 2 3 4 5 6 7", "tell c"]),
    (3, 4, ["let f first place where sign = sign else -1", "let g first sign where place > place else 5", "tell g"]),
    (2, 5, ["let l last place where sign /= sign else -1", "let m last sign where place < place else 0", "tell m"]),
    (2, 5, ["let c count where place <= place", "let d count where sign pairs place 0:0 0:4 1:0 1:3", "tell d"]),
    (2, 4, ["let y table sign : -2 3", "let m mean y where place >= place else 3", "tell m"]),
    (3, 3, ["let m mean sign where sign < sign else -9", "let n mean place where sign pairs sign else 1", "tell m"]),
    (2, 4, ["let t be 1", "let len count where t = t", "let b be - - len 1 place",
            "let r first sign where place = b else 0", "tell r"]),
]


def read(signs, n, *rows):
    """The program with some rows behind the first one."""
    return Program.read("".join(f"{row}\n" for row in (f"program {signs} {n}",) + rows))


def values_due(program, text):
    """The dict of the values of all names at a text, counted in another way."""
    found = plainly.meaning(program.signs, program.n, program.lines(), text)
    return {name: plainly.pairs(values) for name, values in found.items()}


class Interface(unittest.TestCase):
    def test_functions_and_methods(self):
        self.assertTrue(inspect.isfunction(make))
        self.assertEqual(make.__module__, "lookingnets.fittings")
        self.assertEqual(list(inspect.signature(make).parameters), ["program"])
        self.assertIs(fittings.Fitting, Fitting)
        self.assertEqual(Fitting.__module__, "lookingnets.fittings")
        for name, parameters in METHODS.items():
            self.assertIn(name, vars(Fitting))
            self.assertEqual(list(inspect.signature(getattr(Fitting, name)).parameters), parameters)
        for name in ["__eq__", "__str__", "__repr__"]:
            self.assertIn(name, vars(Fitting))
        self.assertIsInstance(vars(Fitting)["read"], staticmethod)

    def test_parameters_by_name(self):
        program, net, chart = Program.read(LIKE), Net.read(LIKE_ME), Chart.read(LIKE_ME_CHART)
        fitting = Fitting(chart=chart, net=net, program=program)
        self.assertEqual(fitting, make(program=program))
        self.assertEqual(fitting(text=[0, 1, 0]), ((2, 1), (1, 1), (2, 1)))
        self.assertEqual(fitting.value_rows(text=[1])["c"], ((1, 1),))
        self.assertEqual(Fitting.read(text=fitting.text()), fitting)
        self.assertEqual(len(make(read(2, 4, "tell sign")).then(other=fitting).program), 1)


class Parts(unittest.TestCase):
    def test_attributes_and_repr(self):
        for program, net, chart in WRITTEN:
            parts = (Program.read(program), Net.read(net), Chart.read(chart))
            fitting = Fitting(*parts)
            self.assertIs(type(fitting), Fitting)
            self.assertEqual((fitting.program, fitting.net, fitting.chart), parts)
            self.assertEqual(repr(fitting), f"Fitting({program.count('let')} lines, {parts[1].width} columns)")
        self.assertEqual(repr(make(read(2, 4, "let c count where sign = sign", "tell c"))),
                         "Fitting(1 lines, 14 columns)")
        self.assertEqual(repr(make(read(2, 1, "tell sign"))), "Fitting(0 lines, 5 columns)")

    def test_make(self):
        for program, net, chart in WRITTEN[:4]:
            fitting = make(Program.read(program))
            self.assertIs(type(fitting), Fitting)
            self.assertEqual(fitting.text(), program + net + chart)

    def test_make_counted(self):
        for seed in range(60):
            chance = random.Random(seed)
            signs, n, many = chance.randint(2, 5), chance.randint(1, 8), chance.randint(0, 7)
            lines, told = grown(seed, signs, n, many)
            fitting = make(Program(signs, n, lines, told))
            due = Made(signs, n, lines)
            self.assertEqual(parts_of(fitting.net), due.net())
            self.assertEqual(chart_parts(fitting.chart), due.chart())
            self.assertEqual((fitting.program.lines(), fitting.program.told), (lines, told))

    def test_equal(self):
        fitting = make(Program.read(LIKE))
        self.assertTrue(fitting == Fitting(Program.read(LIKE), Net.read(LIKE_ME), Chart.read(LIKE_ME_CHART)))
        self.assertFalse(fitting != make(Program.read(LIKE)))
        wide = Net.read(LIKE_ME.replace("2 4 14", "2 4 15"))
        for other in [
            Fitting(Program.read(LIKE.replace("tell c", "tell sign")), fitting.net, fitting.chart),
            Fitting(fitting.program, wide, fitting.chart),
            Fitting(fitting.program, Net.read(changed(LIKE_ME, ("2,2:1 3", "2,2:1 2,3:-1 3"))), fitting.chart),
            Fitting(fitting.program, wide, Chart.read(changed(LIKE_ME_CHART, ("4:13", "4:13 5:14")))),
            make(read(2, 4, "let d count where sign = sign", "tell d")),
        ]:
            self.assertFalse(fitting == other)
            self.assertTrue(fitting != other)
        same = Fitting(fitting.program, wide, fitting.chart)
        self.assertTrue(same == Fitting(fitting.program, wide, fitting.chart))
        self.assertFalse(same == Fitting(fitting.program, wide, Chart.read(changed(LIKE_ME_CHART, ("4:13", "4:13 5:14")))))
        for other in any_values() + [fitting.program, fitting.net, fitting.chart, fitting.text()]:
            self.assertFalse(fitting == other)
            self.assertFalse(other == fitting)

    def test_broken(self):
        for due, net, chart in [
            ((0, "shape"), LIKE_ME, changed(LIKE_ME_CHART, ("chart 0", "chart 14"))),
            ((1, "shape"), LIKE_ME, changed(LIKE_ME_CHART, ("name c 1", "name c 0"))),
            ((0, "given"), changed(LIKE_ME, ("rest 0:1", "rest 0:2")), LIKE_ME_CHART),
            ((1, "given"), changed(LIKE_ME, ("place 0 4:1", "place 0 4:1 9:1")), LIKE_ME_CHART),
            ((0, "stays"), changed(LIKE_ME, ("> 13:1", "> 0:1 13:1")), LIKE_ME_CHART),
            ((1, "stays"), changed(LIKE_ME, ("> 13:1", "> 8:1 13:1")), LIKE_ME_CHART),
            ((1, "reads"), changed(LIKE_ME, ("4/5 1:-5", "4/5 0:1 1:-5 2:1")), LIKE_ME_CHART),
            ((1, "scores"), changed(LIKE_ME, ("2,2:1", "2,2:2")), LIKE_ME_CHART),
            ((1, "values"), changed(LIKE_ME, ("> 8,1:1", "> 8,1:1/2")), LIKE_ME_CHART),
            ((1, "rest"), changed(LIKE_ME, ("unit -2 1:-5", "unit -2 1:5")), LIKE_ME_CHART),
        ]:
            with self.assertRaises(Broken) as caught:
                Fitting(Program.read(LIKE), Net.read(net), Chart.read(chart))
            self.assertEqual((caught.exception.line, caught.exception.word), due)
        with self.assertRaises(Broken) as caught:
            Fitting(Program.read(LIKE.replace("2 4", "2 3")), Net.read(LIKE_ME), Chart.read(LIKE_ME_CHART))
        self.assertEqual((caught.exception.line, caught.exception.word), (0, "shape"))


class WhatItBears(unittest.TestCase):
    def assert_bears(self, fitting, texts):
        """Asserts that a fitting bears the plain meaning of its program at some texts."""
        for text in texts:
            due = values_due(fitting.program, text)
            for some in [list(text), tuple(text)]:
                found = fitting.value_rows(some)
                self.assertEqual(found, due)
                self.assertEqual(list(found), ["sign", "place"] + fitting.program.names())
                self.assertEqual(fitting(some), due[fitting.program.told])
            self.assertIs(type(fitting(text)), tuple)

    def test_each_kind_of_line_at_all_texts(self):
        for signs, n, rows in SMALL:
            self.assert_bears(make(read(signs, n, *rows)), plainly.texts(signs, n))

    def test_written_out(self):
        for program, net, chart in WRITTEN:
            fitting = Fitting(Program.read(program), Net.read(net), Chart.read(chart))
            self.assert_bears(fitting, plainly.texts(fitting.program.signs, fitting.program.n))

    def test_the_examples(self):
        like_me = make(read(2, 4, "let c count where sign = sign", "tell c"))
        self.assertEqual(like_me([0, 1, 0]), ((2, 1), (1, 1), (2, 1)))
        turned = make(read(2, 4, "let t be 1", "let len count where t = t", "let b be - - len 1 place",
                           "let r first sign where place = b else 0", "tell r"))
        self.assertEqual(turned([0, 0, 1]), ((1, 1), (0, 1), (0, 1)))
        self.assertEqual(turned.value_rows([0, 0, 1]), {
            "sign": ((0, 1), (0, 1), (1, 1)), "place": ((0, 1), (1, 1), (2, 1)), "t": ((1, 1),) * 3,
            "len": ((3, 1),) * 3, "b": ((2, 1), (1, 1), (0, 1)), "r": ((1, 1), (0, 1), (0, 1))})
        mean = make(read(2, 4, "let m mean sign where place <= place else 0", "tell m"))
        self.assertEqual(mean([1, 0, 0, 1]), ((1, 1), (1, 2), (1, 3), (1, 2)))

    def test_grown(self):
        for seed in range(80):
            chance = random.Random(seed)
            signs, n, many = chance.randint(2, 4), chance.randint(1, 5), chance.randint(1, 10)
            lines, told = grown(seed + 300, signs, n, many)
            texts = [[chance.randrange(signs) for _ in range(chance.randint(1, n))] for _ in range(3)]
            self.assert_bears(make(Program(signs, n, lines, told)), texts)

    def test_returned_dicts_are_new(self):
        fitting = make(Program.read(LIKE))
        fitting.value_rows([0, 1]).clear()
        self.assertEqual(len(fitting.value_rows([0, 1])), 3)

    def test_values_beyond_the_range(self):
        # A value of sign and one of c that they never have do not show, and change nothing.
        fitting = Fitting(
            Program.read(LIKE), Net.read(LIKE_ME.replace("2 4 14", "2 4 17")), Chart.read(changed(
                LIKE_ME_CHART, (" 4:13", " 4:13 9/2:14"), ("0:2 1:3", "0:2 1:3 5:16"))))
        self.assert_bears(fitting, plainly.texts(2, 4))

    def test_wrong_texts(self):
        fitting = make(read(3, 2, "let a be sign", "tell a"))
        for call in [fitting, fitting.value_rows]:
            for value in any_values() + ["01", {0: 1}, b"\0", fitting]:
                if isinstance(value, (list, tuple)) and len(value) > 0:
                    continue
                with self.assertRaises(NoText) as caught:
                    call(value)
                self.assertEqual(caught.exception.at, -1)
            for text in [[0, 1, 2], (0,) * 9, ["x", None, 7], [[], [], []], [0, 0, 5]]:
                with self.assertRaises(TooLong) as caught:
                    call(text)
                self.assertEqual(caught.exception.length, len(text))
            for text, at in [([3], 0), ([0, 3], 1), ([-1, 0], 0), ([True], 0), ([0, False], 1), (["0"], 0),
                             ((2, None), 1), ([(0, 1)], 0), ([[0]], 0), ([5, 7], 0), ([0, 10 ** 30], 1)]:
                for some in [list(text), tuple(text)]:
                    with self.assertRaises(NoText) as caught:
                        call(some)
                    self.assertEqual(caught.exception.at, at)


class Texts(unittest.TestCase):
    def raises(self, error, due, text):
        """Asserts that a text is not read, with what the error tells."""
        with self.assertRaises(error) as caught:
            Fitting.read(text)
        told = {BadLine: ["line", "why"], BadText: ["line"], Broken: ["line", "word"]}[error]
        self.assertEqual(tuple(getattr(caught.exception, name) for name in told), due, text)
        self.assertIs(type(caught.exception), error)

    def test_there_and_back(self):
        for program, net, chart in WRITTEN:
            text = program + net + chart
            fitting = Fitting.read(text)
            self.assertIs(type(fitting), Fitting)
            self.assertEqual(fitting, Fitting(Program.read(program), Net.read(net), Chart.read(chart)))
            self.assertEqual(fitting.text(), text)
            self.assertEqual(str(fitting), text)

    def test_grown(self):
        for seed in range(40):
            lines, told = grown(seed, 2 + seed % 4, 1 + seed % 8, seed % 7)
            fitting = make(Program(2 + seed % 4, 1 + seed % 8, lines, told))
            text = fitting.text()
            self.assertEqual(text, fitting.program.text() + fitting.net.text() + fitting.chart.text())
            self.assertEqual(Fitting.read(text), fitting)

    def test_factors_without_text(self):
        for factor in [(10 ** 60, 1), (1, 10 ** 61)]:
            net = Net.read(LIKE_ME.replace("2 4 14", "2 4 15"))
            stages = list(net.stages()) + [("bend", [([], (10 ** 59, 1), []), ([], factor, [(14, (10 ** 70, 1))])])]
            fitting = Fitting(Program.read(LIKE), net.with_stages(stages), Chart.read(LIKE_ME_CHART))
            for call in [fitting.text, lambda: str(fitting)]:
                with self.assertRaises(BadValue) as caught:
                    call()
                self.assertEqual(caught.exception.value, factor)

    def test_what_is_no_string(self):
        for value in any_values() + [b"program 2 4", [LIKE], make(Program.read(LIKE))]:
            if not isinstance(value, str):
                self.raises(BadLine, (0, "form"), value)

    def test_the_programs_part(self):
        rest = LIKE_ME + LIKE_ME_CHART
        self.raises(BadLine, (0, "missing"), "")
        self.raises(BadLine, (0, "form"), "\n")
        self.raises(BadLine, (0, "form"), "program 2 4")
        self.raises(BadLine, (0, "form"), rest)
        self.raises(BadLine, (0, "form"), "tell c\n" + rest)
        self.raises(BadLine, (0, "form"), LIKE.replace("2 4", "2 9") + rest)
        self.raises(BadLine, (1, "unknown"), LIKE.replace("sign = sign", "sign = x") + rest)
        self.raises(BadLine, (2, "unknown"), LIKE.replace("tell c", "tell d") + rest)
        self.raises(BadLine, (2, "form"), LIKE.replace("tell c", "tell let") + rest)
        self.raises(BadLine, (2, "form"), LIKE.replace("tell c", "tell ") + rest)
        self.raises(BadLine, (2, "form"), LIKE.removesuffix("\n"))
        self.raises(BadLine, (2, "form"), LIKE.removesuffix("\n") + rest)
        # Without a line that begins with `tell ` all lines are the program's.
        self.raises(BadLine, (2, "form"), LIKE.replace("tell c\n", "") + rest)
        self.raises(BadLine, (2, "missing"), LIKE.replace("tell c\n", ""))
        self.raises(BadLine, (2, "form"), LIKE.replace("tell c", " tell c") + rest)
        # The first one ends it.
        self.raises(BadText, (2,), LIKE.replace("let c count where sign = sign", "tell sign") + rest)
        self.raises(BadLine, (1, "form"), LIKE.replace("let c", "set c") + rest)

    def test_the_nets_part(self):
        lines, end = LIKE.count("\n"), LIKE_ME.count("\n")
        self.raises(BadText, (lines,), LIKE)
        self.raises(BadText, (lines,), LIKE + LIKE)
        self.raises(BadText, (lines,), LIKE + "\n" + LIKE_ME + LIKE_ME_CHART)
        self.raises(BadText, (lines,), LIKE + "net 2 4 14")
        for at, row in enumerate(LIKE_ME.split("\n")[:-1]):
            rows = LIKE_ME.split("\n")
            rows[at] = "x"
            due = lines + at
            if row == "end":
                # Then all that is left up to the chart's end is the net's part.
                self.raises(BadText, (due,), LIKE + "\n".join(rows) + LIKE_ME_CHART)
            self.raises(BadText, (due,), LIKE + "\n".join(rows) + LIKE_ME_CHART)
            self.raises(BadText, (due,), LIKE + "\n".join(LIKE_ME.split("\n")[:at] + [""]))
            self.raises(BadText, (due,), LIKE + "\n".join(LIKE_ME.split("\n")[:at + 1]))
            self.raises(BadText, (due,), LIKE + "\n".join(LIKE_ME.split("\n")[:at] + [row + "x"]))
        # An `end` ahead of the net's last lines ends its part.
        self.raises(BadText, (lines + 5,), LIKE + LIKE_ME.replace("place 1 5:1\n", "end\n") + LIKE_ME_CHART)
        self.raises(BadText, (lines + 10,), LIKE + LIKE_ME.replace("head 0,1", "end\nhead 0,1") + LIKE_ME_CHART)
        self.assertEqual(end, 19)

    def test_the_charts_part(self):
        before = LIKE + LIKE_ME
        lines = before.count("\n")
        self.assertEqual(lines, 22)
        self.raises(BadText, (22,), before)
        self.raises(BadText, (22,), before + "x")
        self.raises(BadText, (22,), before + "end\n" + LIKE_ME_CHART)
        for at, row in enumerate(LIKE_ME_CHART.split("\n")[:-1]):
            rows = LIKE_ME_CHART.split("\n")
            self.raises(BadText, (22 + at,), before + "\n".join(rows[:at] + ["x"] + rows[at + 1:]))
            self.raises(BadText, (22 + at,), before + "\n".join(rows[:at] + [""]))
            self.raises(BadText, (22 + at,), before + "\n".join(rows[:at + 1]))
            self.raises(BadText, (22 + at,), before + "\n".join(rows[:at] + [row + " ", ""]))
        for behind in ["\n", "x", "end\n", " "]:
            self.raises(BadText, (28,), before + LIKE_ME_CHART + behind)

    def test_broken(self):
        for due, net, chart in [
            ((0, "shape"), LIKE_ME, changed(LIKE_ME_CHART, ("sign -1", "sign 0"))),
            ((1, "shape"), LIKE_ME, changed(LIKE_ME_CHART, ("name c 1", "name c 0"))),
            ((1, "values"), changed(LIKE_ME, ("> 8,1:1", "> 8,1:1/2")), LIKE_ME_CHART),
        ]:
            self.raises(Broken, due, LIKE + net + chart)
        self.raises(Broken, (4, "reads"), EXPRESSIONS + changed(
            EXPRESSIONS_NET, ("4:1 7:1 > 10:1", "2:1 4:1 7:1 > 10:1")) + EXPRESSIONS_CHART)
        # What cannot stand is told ahead of what does not fit.
        self.raises(BadText, (27,), LIKE + changed(LIKE_ME, ("> 8,1:1", "> 8,1:1/2"))
                    + changed(LIKE_ME_CHART, ("end", "ends\nend")))

    def test_changed_by_chance(self):
        # What is due is told by the readers of the parts, whose own texts are tested elsewhere; here
        # it is that the parts end where they should, and that the lines are counted through.
        chance = random.Random(13)
        texts = ["".join(parts) for parts in WRITTEN]
        seen = set()
        for _ in range(1500):
            text = almost(chance, chance.choice(texts), "0123456789 :\naelt")
            rows = [row + "\n" for row in text.split("\n")[:-1]]
            rows += [text.split("\n")[-1]] if not text.endswith("\n") else []
            told = next((at for at, row in enumerate(rows, 1) if row.startswith("tell ")), len(rows))
            end = next((at for at, row in enumerate(rows, 1) if at > told and row.strip("\n") == "end"), len(rows))
            found = outcome(lambda: Fitting.read(text))
            due = outcome(lambda: Program.read("".join(rows[:told])))
            shift = 0
            if due[0] == "read":
                due, shift = outcome(lambda: Net.read("".join(rows[told:end]))), told
            if due[0] == "read":
                due, shift = outcome(lambda: Chart.read("".join(rows[end:]))), end
            if due[0] == "BadText":
                due = ("BadText", due[1] + shift)
            if due[0] == "read":
                self.assertIn(found[0], ("read", "Broken"))
            else:
                self.assertEqual(found, due, text)
            seen.add(found[0])
        self.assertEqual(seen, {"read", "BadLine", "BadText", "Broken"})


def outcome(call):
    """What a call does: the name of its error and what this tells, or the word read."""
    try:
        call()
    except (BadLine, BadText, Broken) as error:
        return (error.code,) + tuple(getattr(error, name) for name in ("line", "why") if hasattr(error, name))
    return ("read",)


if __name__ == "__main__":
    unittest.main()
