"""Points [29] to [31], and the section lookingnets/judging.py of the interface."""

import inspect
import random
import unittest
from collections import Counter

from lookingnets import judging
from lookingnets.charts import Chart
from lookingnets.errors import BadChart, NoName
from lookingnets.judging import judge, served, sums_given
from lookingnets.nets import Net
from lookingnets.programs import Program
from tests.growing import grown
from tests.judgely import Judge, changed_chart, changed_net, reordered
from tests.kinds import any_values
from tests.makely import Made
from tests.netly import LIKE_ME
from tests.test_making import (
    ENDS, ENDS_CHART, ENDS_NET, EXPRESSIONS, EXPRESSIONS_CHART, EXPRESSIONS_NET, LIKE_ME_CHART, MEAN,
    MEAN_CHART, MEAN_NET,
)

ONE = (1, 1)
ZERO = (0, 1)
LIKE = "program 2 4\nlet c count where sign = sign\ntell c\n"
# Made by hand with one scratch column for all values: the head needs no weights for places, since
# only one can be found.
HERE = """program 2 3
let t table sign : 1 3
let f first t where place = place else 0
tell f
"""
HERE_NET = """net 2 3 14
rest 0:1 1:1
sign 0 0:1 2:1
sign 1 0:1 3:1
place 0 4:1
place 1 5:1
place 2 6:1
bend
unit 0 1:-1 2:1 > 7:1
unit 0 1:-1 3:1 > 8:1
heads
head 0,1:1 4,4:2 5,5:2 6,6:2 > 9,7:1 9,8:3
bend
unit 0 1:-9 9:1 > 12:1
unit -1 1:-9 9:1 > 12:-3/2 13:1/2
unit -3 1:-9 9:1 > 13:-1/2
unit 1 1:-9 9:-1 > 11:1
end
"""
HERE_CHART = """chart 0 1
name f 2 0:11 1:12 3:13
name place -1 0:4 1:5 2:6
name sign -1 0:2 1:3
name t 0 1:7 3:8
look f 1 0 9
end
"""


def changed(text, *changes):
    """A text with some changes, pairs of what stands in it once and of what stands there instead.

    What is put in ahead of the last line is a pair that begins with "end".
    """
    for old, new in changes:
        if old == "end":
            text = text.removesuffix("end\n") + new + "\n"
            continue
        if text.count(old) != 1:
            raise AssertionError(f"{text.count(old)} times: {old}")
        text = text.replace(old, new)
    return text


class Judging(unittest.TestCase):
    def tell(self, due, program, net, chart):
        """Asserts what the judge tells of a program, a net and a chart, three texts."""
        found = judge(Program.read(program), Net.read(net), Chart.read(chart))
        self.assertEqual(found, due)
        if due is not None:
            self.assertIs(type(found), tuple)


class Interface(unittest.TestCase):
    def test_functions(self):
        for name, parameters in [("served", ["net", "chart", "name"]), ("judge", ["program", "net", "chart"]),
                                 ("sums_given", ["units", "columns", "contents"])]:
            function = getattr(judging, name)
            self.assertTrue(inspect.isfunction(function))
            self.assertEqual(function.__module__, "lookingnets.judging")
            self.assertEqual(list(inspect.signature(function).parameters), parameters)
        net, chart = Net.read(LIKE_ME), Chart.read(LIKE_ME_CHART)
        self.assertIsNone(judge(chart=chart, net=net, program=Program.read(LIKE)))
        self.assertEqual(len(served(name="c", chart=chart, net=net)), 7)
        self.assertEqual(sums_given(contents={}, columns=[3], units=[]), (ZERO,))


class Served(unittest.TestCase):
    NET = Net(2, 1, 9, sign_rows=[[], []], place_rows=[[]], stages=[
        ("heads", [([], [(5, 0, ONE)])]),
        ("bend", [([], ONE, [(5, ONE)]), ([], ZERO, [(6, ONE), (7, ONE)]), ([(5, ONE)], ONE, []),
                  ([], (2, 1), [(8, ONE)]), ([], (3, 1), [(7, (-1, 1))])]),
        ("bend", [([], ONE, [(5, ONE), (7, ONE)])]), ("bend", [])])

    def test_written_out(self):
        units = self.NET.stages()[1][1]
        for columns, due in [
            ([5, 6], [units[0], units[1]]), ([5], [units[0]]), ([7], [units[1], units[4]]), ([], []),
            ([3], []), ([8, 7, 6, 5], [units[0], units[1], units[3], units[4]]),
        ]:
            pairs = [((at, 1), column) for at, column in enumerate(columns)]
            found = served(self.NET, Chart(0, 1, [("a", pairs, 1), ("b", [], 1)]), "a")
            self.assertEqual(found, due)
            self.assertIs(type(found), list)

    def test_stages(self):
        for stage, many in [(-1, 0), (0, 0), (1, 1), (2, 1), (3, 0), (4, 0), (99, 0)]:
            for name in ["a", "sign"]:
                chart = Chart(0, 1, [(name, [(ONE, 5)], stage)])
                self.assertEqual(len(served(self.NET, chart, name)), many)

    def test_one_unit_for_several_names(self):
        chart = Chart(0, 1, [("a", [(ONE, 6)], 1), ("b", [(ONE, 7)], 1)])
        units = self.NET.stages()[1][1]
        self.assertEqual(served(self.NET, chart, "a"), [units[1]])
        self.assertEqual(served(self.NET, chart, "b"), [units[1], units[4]])

    def test_names_without_entry(self):
        chart = Chart(0, 1, [("a", [(ONE, 5)], 1)])
        for name in any_values() + ["b", "sign", ("a",)]:
            with self.assertRaises(NoName) as caught:
                served(self.NET, chart, name)
            self.assertEqual(caught.exception.name, name)
        served(self.NET, chart, "a").clear()
        self.assertEqual(len(served(self.NET, chart, "a")), 1)


class SumsGiven(unittest.TestCase):
    def test_written_out(self):
        units = [([(2, ONE), (1, (-1, 1))], ZERO, [(5, ONE), (6, (-1, 2))]),
                 ([], (1, 3), [(5, (3, 1))]), ([(2, (2, 1))], (-3, 1), [(7, ONE)]),
                 ([(3, ONE)], ZERO, [(6, (5, 1))])]
        for columns, contents, due in [
            ([5, 6, 7, 8], {}, (ONE, ZERO, ZERO, ZERO)),
            ([5, 6, 7, 8], {2: ONE}, ((2, 1), (-1, 2), ZERO, ZERO)),
            ([8, 7, 6, 5], {2: (2, 1)}, (ZERO, ONE, (-1, 1), (3, 1))),
            ([5, 6, 7], {2: (3, 2), 1: ONE, 9: (7, 1)}, ((3, 2), (-1, 4), ZERO)),
            ([5, 6], {2: ONE, 1: ONE}, (ONE, ZERO)), ([5, 6], {2: ONE, 1: (2, 1)}, (ONE, ZERO)),
            ([6, 5], {3: (1, 5)}, (ONE, ONE)), ([6], {3: (-1, 5)}, (ZERO,)), ([], {2: ONE}, ()),
        ]:
            for some, column_list in [(units, columns), (tuple(units), tuple(columns))]:
                found = sums_given(some, column_list, contents)
                self.assertEqual(found, due)
                self.assertIs(type(found), tuple)

    def test_arguments_stay(self):
        units, columns, contents = [([(2, ONE)], ZERO, [(5, ONE)])], [5, 6], {2: ONE}
        sums_given(units, columns, contents)
        self.assertEqual((units, columns, contents), ([([(2, ONE)], ZERO, [(5, ONE)])], [5, 6], {2: ONE}))

    def test_no_units(self):
        self.assertEqual(sums_given([], [4, 5], {4: ONE}), (ZERO, ZERO))
        self.assertEqual(sums_given((), (), {}), ())


class Accepted(Judging):
    def test_what_is_made(self):
        for program, net, chart in [
            ("program 2 1\ntell place\n",
             "net 2 1 5\nrest 0:1 1:1\nsign 0 0:1 2:1\nsign 1 0:1 3:1\nplace 0 4:1\nend\n",
             "chart 0 1\nname place -1 0:4\nname sign -1 0:2 1:3\nend\n"),
            (EXPRESSIONS, EXPRESSIONS_NET, EXPRESSIONS_CHART), (ENDS, ENDS_NET, ENDS_CHART),
            (LIKE, LIKE_ME, LIKE_ME_CHART), (MEAN, MEAN_NET, MEAN_CHART), (HERE, HERE_NET, HERE_CHART),
        ]:
            self.tell(None, program, net, chart)
            told = program.split("\n")[-2]
            self.tell(None, program.replace(told, "tell sign"), net, chart)

    def test_further_columns_heads_units_stages_and_values(self):
        # The column 14 is not charted, and may hold and do anything.
        self.tell(None, LIKE, changed(
            LIKE_ME, ("4 14", "4 15"), ("rest 0:1 1:1", "rest 0:1 1:1 14:5"),
            ("sign 0 0:1 2:1", "sign 0 0:1 2:1 14:-1/2"), ("place 3 7:1", "place 3 7:1 14:9"),
            ("heads\n", "heads\nheads\nhead 14,3:5 > 14,8:1\nbend\nunit 1 13:1 > 14:-1\nheads\n"),
            ("> 8,1:1\n", "> 8,1:1\nhead 13,14:1 > 14,1:1\nhead >\n"),
            ("unit 4/5 1:-5 8:1 >", "unit 0 >\nunit 5 14:1 > 14:3\nunit 4/5 1:-5 8:1 >"),
            ("end", "bend\nunit 7 >\nheads\nend"),
        ), changed(LIKE_ME_CHART, ("name c 1", "name c 4"), ("look c 0 0", "look c 3 0")))
        # A value of c and one of sign that they never have.
        self.tell(None, LIKE, changed(LIKE_ME, ("4 14", "4 17")), changed(
            LIKE_ME_CHART, (" 4:13", " 4:13 9/2:14"), ("0:2 1:3", "0:2 1:3 5:16"), ("0 0 8", "0 0 8 15")))
        # The heads in another place, and the units in another order.
        rows = LIKE_ME.split("\n")
        self.tell(None, LIKE, "\n".join(rows[:9] + ["head >"] + rows[9:11] + rows[16:10:-1] + rows[17:]),
                  changed(LIKE_ME_CHART, ("look c 0 0", "look c 0 1")))

    def test_scores_by_q_lifted_and_of_other_sizes(self):
        for scores in [
            "0,0:3 0,1:1 2,2:1 3,3:1", "0,0:-1/2 0,1:1/2 2,2:1/2 3,3:1/2", "0,1:5 2,2:5 3,3:5",
            "0,1:1/7 2,2:1/7 3,3:1/7", "2,1:1 2,2:1 3,1:2 3,3:2", "2,1:-1 2,2:-1 2,3:-2 3,1:5 3,3:5",
            "0,1:1 2,0:1 2,2:1 3,3:1", "0,2:1 0,3:1 2,1:1 2,3:-1 3,1:1 3,2:-1",
            "0,1:1 1,0:9 1,1:-9 1,2:7 2,2:1 3,3:1", "0,1:1 0,4:-1 2,2:1 2,4:1 3,3:1 3,4:1",
        ]:
            self.tell(None, LIKE, changed(LIKE_ME, ("0,1:1 2,2:1 3,3:1", scores)), LIKE_ME_CHART)
        self.tell((1, "scores"), LIKE, changed(LIKE_ME, ("0,1:1 2,2:1 3,3:1", "0,1:1 2,0:1 2,1:1 2,2:1 3,3:1")),
                  LIKE_ME_CHART)

    def test_one_unit_that_serves_several_names(self):
        program = "program 2 1\nlet a be sign\nlet b be - 1 sign\ntell a\n"
        net = ("net 2 1 9\nrest 0:1 1:1\nsign 0 0:1 2:1\nsign 1 0:1 3:1\nplace 0 4:1\nbend\n"
               "unit 0 1:-1 2:1 > 5:1 8:1\nunit 0 1:-1 3:1 > 6:1 7:1\nend\n")
        chart = "chart 0 1\nname a 0 0:5 1:6\nname b 0 0:7 1:8\nname place -1 0:4\nname sign -1 0:2 1:3\nend\n"
        self.tell(None, program, net, chart)
        self.tell((1, "values"), program, net, changed(chart, ("0:5 1:6", "0:6 1:5")))
        self.tell((2, "values"), program, net, changed(chart, ("0:7 1:8", "0:8 1:7")))
        # What one of the names may not read, the unit may not read for the other either.
        self.tell((1, "reads"), program.replace("be sign", "be 1").replace("- 1 sign", "sign"),
                  changed(net, ("> 5:1 8:1", "> 6:1 7:1"), ("3:1 > 6:1 7:1", "3:1 > 6:1 8:1")), chart)

    def test_one_scratch_column_for_several_values(self):
        self.tell(None, HERE, HERE_NET, HERE_CHART)
        self.tell((2, "values"), HERE, changed(HERE_NET, ("9:-1 > 11:1", "9:-1 > 11:2")), HERE_CHART)


class Shape(Judging):
    def test_line_0(self):
        due = (0, "shape")
        self.tell(due, LIKE.replace("2 4", "3 4"), LIKE_ME, LIKE_ME_CHART)
        self.tell(due, LIKE.replace("2 4", "2 3"), LIKE_ME, LIKE_ME_CHART)
        self.tell(due, LIKE.replace("2 4", "2 5"), LIKE_ME, LIKE_ME_CHART)
        for chart in [
            changed(LIKE_ME_CHART, ("name place", "name d 1\nname place")),
            changed(LIKE_ME_CHART, ("name c 1", "name b -1\nname c 1")),
            changed(LIKE_ME_CHART, ("name place -1 0:4 1:5 2:6 3:7\n", "")),
            changed(LIKE_ME_CHART, ("name sign -1 0:2 1:3\n", "")),
            changed(LIKE_ME_CHART, ("place -1", "place 0")), changed(LIKE_ME_CHART, ("sign -1", "sign 1")),
            changed(LIKE_ME_CHART, ("end", "look place 0 0\nend")),
            changed(LIKE_ME_CHART, ("end", "look sign 0 0\nend")),
            changed(LIKE_ME_CHART, (" 2:6", "")), changed(LIKE_ME_CHART, (" 3:7", "")),
            changed(LIKE_ME_CHART, ("1:3", "2:3")), changed(LIKE_ME_CHART, ("0:2 ", "")),
            changed(LIKE_ME_CHART, ("chart 0", "chart 14")), changed(LIKE_ME_CHART, ("chart 0 1", "chart 0 14")),
            changed(LIKE_ME_CHART, ("1:3", "1:14")), changed(LIKE_ME_CHART, ("3:7", "3:14")),
            changed(LIKE_ME_CHART, ("3:7", "3:7 4:14")), changed(LIKE_ME_CHART, ("1:3", "1:3 2:1999")),
        ]:
            self.tell(due, LIKE, LIKE_ME, chart)
        # A sign or a place more in the net, though the chart has all that the program needs.
        more = changed(LIKE_ME, ("net 2 4 14", "net 3 4 14"), ("place 0", "sign 2 0:1\nplace 0"))
        self.tell(due, LIKE, more, LIKE_ME_CHART)
        more = changed(LIKE_ME, ("net 2 4 14", "net 2 5 14"), ("heads", "place 4\nheads"))
        self.tell(due, LIKE, more, LIKE_ME_CHART)
        wide = LIKE_ME.replace("2 4 14", "2 4 15")
        self.tell(None, LIKE, wide, changed(LIKE_ME_CHART, ("3:7", "3:7 4:14")))
        self.tell((0, "given"), LIKE, wide, changed(LIKE_ME_CHART, ("chart 0", "chart 14")))
        self.tell((0, "given"), LIKE, wide, changed(LIKE_ME_CHART, ("1:3", "1:14")))

    def test_let_lines(self):
        due = (1, "shape")
        for chart in [
            changed(LIKE_ME_CHART, ("name c 1 0:9 1:10 2:11 3:12 4:13\n", ""), ("look c 0 0 8\n", "")),
            changed(LIKE_ME_CHART, ("name c 1", "name c -1")), changed(LIKE_ME_CHART, ("name c 1", "name c 0")),
            changed(LIKE_ME_CHART, ("name c 1", "name c 2")), changed(LIKE_ME_CHART, ("name c 1", "name c 99")),
            changed(LIKE_ME_CHART, ("4:13", "4:14")), changed(LIKE_ME_CHART, (" 4:13", "")),
            changed(LIKE_ME_CHART, ("0:9 ", "")), changed(LIKE_ME_CHART, ("2:11", "5/2:11")),
            changed(LIKE_ME_CHART, (" 4:13", " 4:13 5:14")), changed(LIKE_ME_CHART, ("look c 0 0 8\n", "")),
            changed(LIKE_ME_CHART, ("look c 0", "look c 1")), changed(LIKE_ME_CHART, ("look c 0", "look c 2")),
            changed(LIKE_ME_CHART, ("look c 0 0", "look c 0 1")),
            changed(LIKE_ME_CHART, ("look c 0 0", "look c 0 999")),
            changed(LIKE_ME_CHART, ("0 0 8", "0 0 14")), changed(LIKE_ME_CHART, ("0 0 8", "0 0 8 1999")),
        ]:
            self.tell(due, LIKE, LIKE_ME, chart)
        wide = LIKE_ME.replace("2 4 14", "2 4 15")
        self.tell(None, LIKE, wide, changed(LIKE_ME_CHART, (" 4:13", " 4:13 5:14")))
        self.tell(None, LIKE, wide, changed(LIKE_ME_CHART, ("0 0 8", "0 0 8 14")))
        for name, number in [("a", 1), ("b", 2), ("c", 3), ("d", 4)]:
            self.tell((number, "shape"), EXPRESSIONS, EXPRESSIONS_NET, changed(
                EXPRESSIONS_CHART, ("end", f"look {name} 0 0\nend")))
            self.tell((number, "shape"), EXPRESSIONS, changed(EXPRESSIONS_NET, ("end", "heads\nhead >\nend")),
                      changed(EXPRESSIONS_CHART, ("end", f"look {name} 2 0\nend")))

    def test_the_first_line_of_several(self):
        chart = changed(EXPRESSIONS_CHART, ("name c 0", "name c 5"), ("name b 0", "name b 5"))
        self.tell((2, "shape"), EXPRESSIONS, EXPRESSIONS_NET, chart)
        self.tell((0, "shape"), EXPRESSIONS, EXPRESSIONS_NET, changed(chart, ("0:4", "1:4")))


class Given(Judging):
    def test_line_0(self):
        due = (0, "given")
        for change in [
            ("rest 0:1 1:1", "rest 1:1"), ("rest 0:1 1:1", "rest 0:1/2 1:1"), ("sign 0 0:1 2:1", "sign 0 2:1"),
            ("sign 1 0:1", "sign 1 0:2"), ("place 2 6:1", "place 2 0:1 6:1"), ("rest 0:1 1:1", "rest 0:1"),
            ("rest 0:1 1:1", "rest 0:1 1:2"), ("sign 1 0:1", "sign 1 0:1 1:1"), ("place 0 4:1", "place 0 1:1 4:1"),
            ("sign 0 0:1 2:1", "sign 0 0:1"), ("sign 0 0:1 2:1", "sign 0 0:1 2:1 3:1"),
            ("sign 1 0:1 3:1", "sign 1 0:1 3:-1"), ("place 0 4:1", "place 0"), ("place 0 4:1", "place 0 4:2"),
            ("place 1 5:1", "place 1 4:1 5:1"), ("place 3 7:1", "place 3 3:1 7:1"),
            ("sign 0 0:1 2:1", "sign 0 0:1 2:1 7:1"), ("rest 0:1 1:1", "rest 0:1 1:1 2:1"),
            ("rest 0:1 1:1", "rest 0:1 1:1 7:1"), ("place 3 7:1", "place 3 2:1 7:1"),
        ]:
            self.tell(due, LIKE, changed(LIKE_ME, change), LIKE_ME_CHART)

    def test_values_beyond_the_range(self):
        chart = changed(LIKE_ME_CHART, ("1:3", "1:3 2:14"), ("3:7", "3:7 7/2:15"))
        wide = changed(LIKE_ME, ("2 4 14", "2 4 16"))
        self.tell(None, LIKE, wide, chart)
        for change in [("place 3 7:1", "place 3 7:1 14:1"), ("sign 1 0:1 3:1", "sign 1 0:1 3:1 15:1"),
                       ("rest 0:1 1:1", "rest 0:1 1:1 14:1"), ("rest 0:1 1:1", "rest 0:1 1:1 15:-1")]:
            self.tell((0, "given"), LIKE, changed(wide, change), chart)

    def test_sums_of_both_begin_rows(self):
        rows = [(f"place {u} {u + 4}:1", f"place {u} 0:-2/3 2:-5 {u + 4}:1") for u in range(4)]
        signs = [("sign 0 0:1 2:1", "sign 0 0:5/3 2:6"), ("sign 1 0:1 3:1", "sign 1 0:5/3 2:5 3:1")]
        self.tell(None, LIKE, changed(LIKE_ME, *rows, *signs), LIKE_ME_CHART)
        self.tell((0, "given"), LIKE, changed(LIKE_ME, *rows[:3], *signs), LIKE_ME_CHART)
        self.tell((0, "given"), LIKE, changed(LIKE_ME, *rows, signs[0]), LIKE_ME_CHART)

    def test_let_lines(self):
        for column in [8, 9, 11, 13]:
            for old in ["rest 0:1 1:1", "sign 0 0:1 2:1", "sign 1 0:1 3:1", "place 0 4:1", "place 3 7:1"]:
                self.tell((1, "given"), LIKE, changed(LIKE_ME, (old, f"{old} {column}:1")), LIKE_ME_CHART)
            places = [(f"place {u} {u + 4}:1", f"place {u} {u + 4}:1 {column}:-3") for u in range(4)]
            signs = [(f"sign {s} 0:1 {s + 2}:1", f"sign {s} 0:1 {s + 2}:1 {column}:3") for s in range(2)]
            self.tell(None, LIKE, changed(LIKE_ME, *places, *signs), LIKE_ME_CHART)
            self.tell((1, "given"), LIKE, changed(LIKE_ME, *places[1:], *signs), LIKE_ME_CHART)
        for column, number in [(5, 1), (6, 2), (7, 3), (8, 3), (9, 4), (10, 4)]:
            self.tell((number, "given"), EXPRESSIONS, changed(
                EXPRESSIONS_NET, ("place 0 4:1", f"place 0 4:1 {column}:1")), EXPRESSIONS_CHART)
        # A column of a value that a line never has, and a further scratch column.
        wide = changed(LIKE_ME, ("2 4 14", "2 4 15"), ("rest 0:1 1:1", "rest 0:1 1:1 14:1"))
        self.tell((1, "given"), LIKE, wide, changed(LIKE_ME_CHART, ("4:13", "4:13 5:14")))
        self.tell((1, "given"), LIKE, wide, changed(LIKE_ME_CHART, ("0 0 8", "0 0 8 14")))


class Stays(Judging):
    def test_line_0(self):
        for column in range(8):
            due = (0, "stays")
            for net in [
                changed(LIKE_ME, ("> 8,1:1", f"> {column},1:1 8,1:1")),
                changed(LIKE_ME, ("8,1:1\n", f"8,1:1\nhead > {column},0:1\n")),
                changed(LIKE_ME, ("end", f"unit -1 > {column}:1\nend")),
                changed(LIKE_ME, ("end", f"bend\nunit 0 > {column}:1/5\nend")),
                changed(LIKE_ME, ("heads\n", f"heads\nhead > {column},0:1\nheads\n")),
            ]:
                self.tell(due, LIKE, net, changed(LIKE_ME_CHART, ("look c 0", "look c 1"), ("name c 1", "name c 2"))
                          if net.count("heads") == 2 else LIKE_ME_CHART)
        wide = changed(LIKE_ME, ("2 4 14", "2 4 15"), ("end", "unit -1 > 14:1\nend"))
        self.tell(None, LIKE, wide, LIKE_ME_CHART)
        self.tell((0, "stays"), LIKE, wide, changed(LIKE_ME_CHART, ("1:3", "1:3 2:14")))
        self.tell((0, "stays"), LIKE, wide, changed(LIKE_ME_CHART, ("3:7", "3:7 4:14")))

    def test_let_lines(self):
        due = (1, "stays")
        for column in [9, 11, 13]:
            self.tell(due, LIKE, changed(LIKE_ME, ("8,1:1\n", f"8,1:1 {column},1:1\n")), LIKE_ME_CHART)
            self.tell(due, LIKE, changed(LIKE_ME, ("8,1:1\n", f"8,1:1\nhead > {column},1:1\n")), LIKE_ME_CHART)
            self.tell(due, LIKE, changed(LIKE_ME, ("end", f"bend\nunit -1 > {column}:1\nend")), LIKE_ME_CHART)
            # In the bend of its entry, a unit that gives nothing is one that serves it.
            self.tell(None, LIKE, changed(LIKE_ME, ("end", f"unit -1 > {column}:1\nend")), LIKE_ME_CHART)
        self.tell(due, LIKE, changed(LIKE_ME, ("8,1:1\n", "8,1:1\nhead > 8,1:1\n")), LIKE_ME_CHART)
        self.tell(due, LIKE, changed(LIKE_ME, ("end", "unit -1 > 8:1\nend")), LIKE_ME_CHART)
        self.tell(due, LIKE, changed(LIKE_ME, ("end", "bend\nunit -1 > 8:1\nend")), LIKE_ME_CHART)
        # A head with the same index in another heads stage.
        self.tell(due, LIKE, changed(LIKE_ME, ("end", "heads\nhead > 8,1:1\nend")), LIKE_ME_CHART)
        self.tell(None, LIKE, changed(LIKE_ME, ("end", "heads\nhead 8,9:1 >\nend")), LIKE_ME_CHART)
        # A table whose columns another bend writes too, and values that it never has.
        self.tell((3, "stays"), EXPRESSIONS, changed(EXPRESSIONS_NET, ("end", "unit -1 > 8:1\nend")),
                  EXPRESSIONS_CHART)
        self.tell((4, "stays"), EXPRESSIONS, changed(EXPRESSIONS_NET, ("unit 1 1:-1 > 5:1", "unit 1 1:-1 > 5:1 9:1")),
                  EXPRESSIONS_CHART)
        wide = changed(LIKE_ME, ("2 4 14", "2 4 15"), ("end", "bend\nunit -1 > 14:1\nend"))
        self.tell(None, LIKE, wide, LIKE_ME_CHART)
        self.tell(due, LIKE, wide, changed(LIKE_ME_CHART, ("4:13", "4:13 5:14")))
        self.tell(due, LIKE, wide, changed(LIKE_ME_CHART, ("0 0 8", "0 0 8 14")))


class Order(Judging):
    def test_be_and_table(self):
        # Both in one bend; the table stands ahead of what it reads.
        one = changed(EXPRESSIONS_NET, ("bend\nunit -1 1:-1 4:1 7:1 > 10:1\n", "unit -1 1:-1 4:1 7:1 > 10:1\n"))
        self.tell((4, "order"), EXPRESSIONS, one, changed(EXPRESSIONS_CHART, ("name d 1", "name d 0")))
        rows = EXPRESSIONS_NET.split("\n")
        turned = "\n".join(rows[:5] + rows[10:13] + rows[5:10] + rows[13:])
        chart = EXPRESSIONS_CHART
        for name in "abc":
            chart = changed(chart, (f"name {name} 0", f"name {name} 1"))
        self.tell((4, "order"), EXPRESSIONS, turned, changed(chart, ("name d 1", "name d 0")))
        # A name that is never read counts as well.
        program = "program 2 1\nlet a be 1\nlet b be * 0 a\ntell b\n"
        net = ("net 2 1 7\nrest 0:1 1:1\nsign 0 0:1 2:1\nsign 1 0:1 3:1\nplace 0 4:1\n"
               "bend\nunit 1 1:-1 > 5:1 6:1\nend\n")
        chart = "chart 0 1\nname a 0 1:5\nname b 0 0:6\nname place -1 0:4\nname sign -1 0:2 1:3\nend\n"
        self.tell((2, "order"), program, net, chart)
        two = changed(net, ("> 5:1 6:1", "> 5:1\nbend\nunit 1 1:-1 > 6:1"))
        self.tell(None, program, two, changed(chart, ("name b 0", "name b 1")))
        back = changed(net, ("> 5:1 6:1", "> 6:1\nbend\nunit 1 1:-1 > 5:1"))
        self.tell((2, "order"), program, back, changed(chart, ("name a 0", "name a 1")))

    def test_looks(self):
        due = (2, "order")
        # t stands at the look itself, behind it, or behind the entry of f.
        bend = "bend\nunit 0 1:-1 2:1 > 7:1\nunit 0 1:-1 3:1 > 8:1\n"
        rows = changed(HERE_NET, (bend, ""))
        for net, chart in [
            (changed(rows, ("bend\n", f"{bend}bend\n")), [("name t 0", "name t 1"), ("look f 1", "look f 0")]),
            (changed(rows, ("bend\n", bend)), [("name t 0", "name t 1"), ("look f 1", "look f 0"),
                                               ("name f 2", "name f 1")]),
            (changed(rows, ("end", f"{bend}end")), [("name t 0", "name t 2"), ("look f 1", "look f 0"),
                                                    ("name f 2", "name f 1")]),
        ]:
            self.tell(due, HERE, net, changed(HERE_CHART, *chart))
        # The bend of f stands ahead of its heads stage.
        heads = "heads\nhead 0,1:1 4,4:2 5,5:2 6,6:2 > 9,7:1 9,8:3\n"
        late = changed(HERE_NET, (heads, ""), ("end", f"{heads}end"))
        self.tell(due, HERE, late, changed(HERE_CHART, ("name f 2", "name f 1"), ("look f 1", "look f 2")))
        # Behind each other they may stand as far apart as they like.
        apart = changed(HERE_NET, (heads, f"heads\nheads\n{heads}bend\nbend\n"))
        self.tell(None, HERE, apart, changed(HERE_CHART, ("name f 2", "name f 6"), ("look f 1", "look f 3")))


class ExpressionTests(Judging):
    def test_reads(self):
        for number, change in [
            (1, ("unit 1 1:-1 > 5:1", "unit 1 1:-1 2:1 > 5:1")), (2, ("> 6:1", "> 6:1\nunit 0 4:1 > 6:1")),
            (3, ("unit 0 1:-1 2:1 > 7:1", "unit 0 1:-1 2:1 4:1 > 7:1")),
            (3, ("unit 0 1:-1 2:1 > 7:1", "unit 0 1:-1 2:1 7:1 > 7:1")),
            (4, ("unit -1 1:-1 4:1 7:1 > 10:1", "unit -1 1:-1 2:1 4:1 7:1 > 10:1")),
            (4, ("unit -1 1:-1 4:1 7:1 > 10:1", "unit -1 1:-1 4:1 5:1 7:1 > 10:1")),
        ]:
            self.tell((number, "reads"), EXPRESSIONS, changed(EXPRESSIONS_NET, change), EXPRESSIONS_CHART)
        # One may be read, and columns of values that a name never has.
        chart = changed(EXPRESSIONS_CHART, ("0 0:7 2:8", "0 0:7 2:8 3:11"))
        net = changed(EXPRESSIONS_NET, ("2 1 11", "2 1 12"), ("unit -1 1:-1 4:1 7:1 >", "unit 0 0:-1 1:-1 4:1 7:1 11:5 >"))
        self.tell(None, EXPRESSIONS, net, chart)
        self.tell((4, "reads"), EXPRESSIONS, net, EXPRESSIONS_CHART)

    def test_values(self):
        for number, change in [
            (1, ("unit 1 1:-1 > 5:1", "unit 2 1:-2 > 5:1")), (1, ("unit 1 1:-1 > 5:1", "unit 1 1:-1 > 5:1/2")),
            (2, ("unit 1 1:-1 > 6:1", "unit 0 1:-1 > 6:1")), (3, ("2:1 > 7:1", "2:1 > 8:1")),
            (3, ("2:1 > 7:1", "2:2 > 7:1")), (3, ("2:1 > 7:1", "2:1 > 7:1 8:1/9")),
            (3, ("3:1 > 8:1", "3:1 > 7:-1 8:1")), (4, ("7:1 > 10:1", "7:1 > 9:1 10:1")),
            (4, ("unit -1 1:-1 4:1 8:1 > 9:1\n", "")), (4, ("7:1 > 10:1", "7:1 > 10:3/2")),
        ]:
            self.tell((number, "values"), EXPRESSIONS, changed(EXPRESSIONS_NET, change), EXPRESSIONS_CHART)
        # Several units may give to a column, and less than nothing.
        self.tell(None, EXPRESSIONS, changed(
            EXPRESSIONS_NET, ("unit 0 1:-1 2:1 > 7:1", "unit 0 1:-1 2:1/2 > 7:1\nunit 1 1:-2 3:-1 > 7:1/2")),
            EXPRESSIONS_CHART)
        self.tell(None, EXPRESSIONS, changed(
            EXPRESSIONS_NET, ("unit 1 1:-1 > 5:1", "unit 5 1:-5 > 5:1\nunit 2 1:-2 > 5:-2")), EXPRESSIONS_CHART)
        # The column of a value that c never has must get nothing.
        chart = changed(EXPRESSIONS_CHART, ("0 0:7 2:8", "0 0:7 2:8 3:11"))
        net = changed(EXPRESSIONS_NET, ("2 1 11", "2 1 12"))
        self.tell(None, EXPRESSIONS, net, chart)
        self.tell((3, "values"), EXPRESSIONS, changed(net, ("2:1 > 7:1", "2:1 > 7:1 11:1")), chart)
        self.tell(None, EXPRESSIONS, changed(net, ("2:1 > 7:1", "2:1 > 7:1 11:1")), EXPRESSIONS_CHART)

    def test_rest(self):
        for number, change in [
            (1, ("unit 1 1:-1 > 5:1", "unit 1 > 5:1")), (1, ("unit 1 1:-1 > 5:1", "unit 1 1:-1/2 > 5:1")),
            (3, ("unit 0 1:-1 2:1 > 7:1", "unit 0 0:1 1:-1 3:-1 > 7:1\nunit 0 1:1 > 8:1")),
            (4, ("unit -1 1:-1 4:1 7:1 > 10:1", "unit -1 1:2 4:1 7:1 > 10:1")),
        ]:
            self.tell((number, "rest"), EXPRESSIONS, changed(EXPRESSIONS_NET, change), EXPRESSIONS_CHART)
        for change in [("unit 1 1:-1 > 5:1", "unit 1 1:-9 > 5:1"), ("2:1 > 7:1", "2:1 > 7:1\nunit 0 1:1 > 8:1\n"
                                                                   "unit 0 1:2 > 8:-1/2")]:
            self.tell(None, EXPRESSIONS, changed(EXPRESSIONS_NET, change), EXPRESSIONS_CHART)


class LookReads(Judging):
    def test_scores(self):
        program = changed(HERE, ("place = place", "place = t"))
        net = changed(HERE_NET, ("0,1:1 4,4:2 5,5:2 6,6:2", "0,1:1 7,5:2"))
        # The place 1 is found from where t is 1, and nothing from where it is 3.
        self.tell(None, program, net, HERE_CHART)
        for scores in ["2,5:1 7,5:2", "4,5:1 7,5:2", "7,5:2 7,8:-1", "7,2:-1 7,5:2", "7,5:2 7,9:-1",
                       "7,5:2 7,11:-1", "7,5:2 9,5:-1", "7,5:2 11,5:-1", "7,5:2 8,7:1"]:
            self.tell((2, "reads"), program, changed(net, ("7,5:2", scores)), HERE_CHART)
        for scores in ["1,0:1 1,1:1 7,5:2", "1,5:1 7,5:2", "7,0:9 7,5:2", "7,5:2 8,6:-3"]:
            self.tell(None, program, changed(net, ("7,5:2", scores)), HERE_CHART)

    def test_place_may_stand_there_for_any_k(self):
        program = changed(LIKE, ("sign = sign", "sign >= sign"))
        for scores, due in [("0,1:1 2,2:1 2,3:1 3,3:1", None),
                            ("0,1:1 0,4:1 2,2:1 2,3:1 3,3:1", (1, "scores")),
                            ("0,1:1 2,2:1 2,3:1 3,3:1 4,2:1", (1, "reads")),
                            ("0,1:1 0,9:1 2,2:1 2,3:1 3,3:1", (1, "reads"))]:
            self.tell(due, program, changed(LIKE_ME, ("0,1:1 2,2:1 3,3:1", scores)), LIKE_ME_CHART)

    def test_givings(self):
        net = changed(LIKE_ME, ("2 4 14", "2 4 15"))
        for givings, due in [
            ("8,1:1 14,1:1", (1, "reads")), ("8,0:1 14,1:1", (1, "reads")), ("8,1:1 8,2:1", (1, "reads")),
            ("8,1:1 8,8:1", (1, "reads")), ("8,1:1 8,4:1", (1, "reads")), ("8,1:2", (1, "values")),
            ("8,0:1 8,1:1", (1, "values")), ("8,0:1/2", (1, "values")),
        ]:
            self.tell(due, LIKE, changed(net, ("> 8,1:1", "> " + givings)), LIKE_ME_CHART)
        # From the columns of Y, here t, alone.
        for givings, due in [("9,2:1 9,7:1 9,8:3", (2, "reads")), ("9,7:1 9,8:3 11,0:1", (2, "stays")),
                             ("9,4:1 9,7:1 9,8:3", (2, "reads")), ("9,0:1 9,8:2", (2, "values")),
                             ("9,0:1 9,1:-1 9,8:2", None)]:
            self.tell(due, HERE, changed(HERE_NET, ("> 9,7:1 9,8:3", "> " + givings)), HERE_CHART)

    def test_units(self):
        for terms, due in [("0:1 1:-5 8:1", (1, "values")), ("1:-5 2:1 8:1", (1, "reads")),
                           ("1:-5 8:1 9:1", (1, "reads")), ("1:-5 8:1 13:1", (1, "reads"))]:
            self.tell(due, LIKE, changed(LIKE_ME, ("unit 4/5 1:-5 8:1", f"unit 4/5 {terms}")), LIKE_ME_CHART)
        wide = changed(LIKE_ME, ("2 4 14", "2 4 15"), ("unit 4/5 1:-5 8:1", "unit 4/5 1:-5 8:1 14:1"))
        self.tell((1, "reads"), LIKE, wide, LIKE_ME_CHART)
        self.tell(None, LIKE, wide, changed(LIKE_ME_CHART, ("0 0 8", "0 0 8 14")))
        # Units that do not serve it may read anything.
        self.tell(None, LIKE, changed(LIKE_ME, ("2 4 14", "2 4 15"), ("end", "unit 1 2:1 13:1 > 14:1\nend")),
                  LIKE_ME_CHART)


class LookScores(Judging):
    def test_count(self):
        for scores, due in [
            ("0,1:1 2,2:1 3,3:1", None), ("0,1:1 2,2:1 3,3:2", (1, "scores")), ("0,1:1 2,2:1", (1, "scores")),
            ("0,1:1 2,2:1 2,3:1 3,3:1", (1, "scores")), ("0,1:1 2,2:1 2,3:1/2 3,3:1", None),
            ("0,1:1 2,2:1 2,3:-7 3,3:1", None), ("0,0:1 0,1:1 2,2:1 3,3:1", None),
            ("0,0:1 0,1:2 2,2:1 3,3:1", (1, "scores")), ("0,1:1 0,7:1 2,2:1 3,3:1", (1, "scores")),
            ("0,1:1 2,2:1 2,7:-1/3 3,3:1", (1, "scores")), ("0,1:1 1,1:9 2,2:1 3,3:1", None),
            ("0,1:2 2,2:1 3,3:1", (1, "scores")), ("2,2:1 3,3:1", (1, "scores")),
        ]:
            self.tell(due, LIKE, changed(LIKE_ME, ("0,1:1 2,2:1 3,3:1", scores)), LIKE_ME_CHART)

    def test_first(self):
        # f is the first sign at a place that is equal to the sign, with weights for both places.
        old = "0,1:2 0,5:-1 2,4:4 3,5:4"
        for scores, due in [
            ("0,1:2 2,4:4 3,5:4", None), ("0,1:2 0,5:7 2,4:4 3,5:4", (1, "scores")),
            ("0,1:2 0,5:3/2 2,4:4 3,5:4", None), ("0,1:2 0,5:-2 2,4:4 3,5:4", (1, "scores")),
            ("0,1:4 0,5:-1 2,4:4 3,5:4", (1, "scores")), ("0,1:2 0,4:2 2,4:4 3,5:4", (1, "scores")),
            ("2,4:1/9 3,5:1/9", (1, "scores")), ("0,1:1/18 2,4:1/9 3,5:1/9", None),
            ("2,4:1 2,5:-1 3,4:-1 3,5:1", None), ("2,4:1 3,4:-1 3,5:1", (1, "scores")),
        ]:
            self.tell(due, ENDS, changed(ENDS_NET, (old, scores)), ENDS_CHART)
        program = changed(ENDS, ("first sign where place = sign", "first sign where place <= sign"))
        # 0 is found from 0 and from 1, and 1 from 1; from 1, the place 0 must be ahead.
        for scores, due in [
            ("0,1:2 0,5:-1 2,4:4 3,4:4 3,5:4", None), ("0,1:2 2,4:4 3,4:4 3,5:4", (1, "scores")),
            ("0,1:2 2,4:4 3,4:5 3,5:4", None), ("0,1:2 2,4:4 3,4:4 3,5:5", (1, "scores")),
            ("0,1:2 0,5:1 2,4:4 3,4:4 3,5:4", (1, "scores")), ("2,4:1 3,4:1 3,5:1/2", (1, "scores")),
            ("2,4:1 2,5:-1 3,4:1 3,5:1/2", None), ("2,4:1 2,5:-1 3,0:7 3,4:1 3,5:1/2", None),
        ]:
            self.tell(due, program, changed(ENDS_NET, (old, scores)), ENDS_CHART)

    def test_last(self):
        # l is the last sign at a place where the sign is less than the place: 0 from the place 1.
        old = "0,4:-2 0,5:-1 5,2:4"
        for scores, due in [
            ("0,4:-2 0,5:-1 5,2:4", None), ("0,4:-1 0,5:-2 5,2:4", (2, "scores")), ("0,4:-2 0,5:-2 5,2:4", (2, "scores")),
            ("0,4:-1 0,5:-1/2 5,2:2", None), ("0,4:-2 0,5:-1 5,2:2", (2, "scores")), ("0,5:1 5,2:4", (2, "scores")),
            ("0,4:-4 0,5:-1 5,2:4", (2, "scores")), ("0,1:1 0,5:1/2 5,2:4", None), ("0,1:1 0,5:1 5,2:4", (2, "scores")),
            ("0,1:1 5,2:4 5,4:-1", None), ("0,1:1 5,2:4 5,5:-1", (2, "scores")), ("0,1:1 5,2:4 5,3:1", (2, "scores")),
        ]:
            self.tell(due, ENDS, changed(ENDS_NET, (old, scores)), ENDS_CHART)

    def test_mean(self):
        old = "0,1:1 4,4:2 5,4:2 5,5:2"
        for scores, due in [
            ("0,1:1 4,4:2 5,4:2 5,5:3", (2, "scores")), ("0,1:1 4,4:9 5,4:2 5,5:2", None),
            ("0,1:1 4,4:9 4,5:1/2 5,4:2 5,5:2", None), ("0,1:1 4,4:9 4,5:1 5,4:2 5,5:2", (2, "scores")),
            ("0,1:2 4,4:2 5,4:2 5,5:2", (2, "scores")), ("4,4:2 5,4:1 5,5:1", (2, "scores")),
            ("4,4:2 4,5:-1 5,4:1 5,5:1", None),
        ]:
            self.tell(due, MEAN, changed(MEAN_NET, (old, scores)), MEAN_CHART)

    def test_k_that_is_not_place(self):
        # All values of K and all places are asked; the signs are found from 1, and 0 from 0.
        program = changed(MEAN, ("place <= place", "sign <= sign"))
        old = "0,1:1 4,4:2 5,4:2 5,5:2"
        for scores, due in [
            ("0,1:1 2,2:2 3,2:2 3,3:2", None), ("0,1:1 0,4:1/2 2,2:2 3,2:2 3,3:2", (2, "scores")),
            ("0,1:1 2,2:2 2,4:1/2 3,2:2 3,3:2", (2, "scores")), ("0,1:1 2,2:2 2,4:1 2,5:1 3,2:2 3,3:2", (2, "scores")),
            ("0,1:1 0,4:1/2 0,5:1/2 2,2:2 3,2:2 3,3:2", None),
        ]:
            self.tell(due, program, changed(MEAN_NET, (old, scores)), MEAN_CHART)

    def test_what_is_found_nowhere(self):
        program = changed(LIKE, ("where sign = sign", "where sign pairs sign"))
        for scores, due in [("0,1:1 >", None), (">", (1, "scores")), ("0,1:1 2,2:1 >", (1, "scores")),
                            ("0,1:1/9 3,2:-8 >", None)]:
            self.tell(due, program, changed(LIKE_ME, ("0,1:1 2,2:1 3,3:1 >", scores)), LIKE_ME_CHART)


class LookValues(Judging):
    def test_straight(self):
        program = ("program 3 1\nlet m mean sign where sign = sign else 0\ntell m\n")
        net = ("net 3 1 11\nrest 0:1 1:1\nsign 0 0:1 2:1\nsign 1 0:1 3:1\nsign 2 0:1 4:1\nplace 0 5:1\nheads\n"
               "head 0,1:1 2,2:2 3,3:2 4,4:2 > 6,2:1 6,3:2 6,4:3\nbend\n"
               "unit 1 1:-8 6:1 > 8:1\nunit 0 1:-8 6:1 > 8:-1\nunit -1 1:-8 6:1 > 8:-2 9:1\n"
               "unit -2 1:-8 6:1 > 8:1 9:-2 10:1\nunit -3 1:-8 6:1 > 9:1 10:-2\nunit -4 1:-8 6:1 > 10:1\nend\n")
        chart = ("chart 0 1\nname m 1 0:8 1:9 2:10\nname place -1 0:5\nname sign -1 0:2 1:3 2:4\n"
                 "look m 0 0 6 7\nend\n")
        self.tell((1, "values"), program, net, chart)
        net = changed(net, ("unit -1 1:-8 6:1 > 8:-2 9:1", "unit -1 1:-8 6:1 > 8:-1 9:1"))
        self.tell(None, program, net, chart)
        for givings, due in [
            ("6,2:1 6,3:2 6,4:3 7,3:1", (1, "straight")), ("6,2:1 6,3:2 6,4:3 7,2:1 7,3:1 7,4:1", None),
            ("6,2:1 6,3:2 6,4:3 7,3:-1/2 7,4:-1", None), ("6,2:1 6,3:3 6,4:2", (1, "straight")),
            ("6,2:1 6,3:2 6,4:4", (1, "straight")), ("6,0:-5 6,2:6 6,3:7 6,4:8", (1, "values")),
            ("6,0:1 6,1:-1 6,3:1 6,4:2", None), ("6,0:1 6,1:-1 6,3:1 6,4:3", (1, "straight")),
            ("6,2:1 6,3:2", (1, "straight")),
        ]:
            self.tell(due, program, changed(net, ("6,2:1 6,3:2 6,4:3", givings)), chart)
        # For a first it need not be straight.
        first = changed(program, ("m mean", "m first"))
        self.tell(None, first, changed(net, ("6,2:1 6,3:2 6,4:3", "6,2:1 6,3:2 6,4:3 7,3:1")), chart)

    def test_count(self):
        due = (1, "values")
        for change in [("> 8,1:1", "> 8,1:2"), ("9:2 10:-8 11:6", "9:2 10:-7 11:6"), ("> 13:1", "> 13:2"),
                       ("unit -2 1:-5 8:1 > 9:1\n", ""), ("unit 4/5", "unit 3/5"),
                       ("-1/5 1:-5 8:1", "-1/5 1:-5 8:2")]:
            net = changed(LIKE_ME, change)
            self.tell(None if change[1] == "" else due, LIKE, net, LIKE_ME_CHART)
        # Scratch contents that are turned about: k / (k + 1) in the place of 1 / (k + 1).
        net = changed(LIKE_ME, ("> 8,1:1", "> 8,0:1 8,1:-1"))
        self.tell(due, LIKE, net, LIKE_ME_CHART)
        self.tell(None, LIKE, net.replace("1:-5 8:1 >", "0:1 1:-5 8:-1 >"), LIKE_ME_CHART)
        # What is wrong for 4 alone, for 0 alone, and for 2 alone.
        for units, word in [("unit 1 1:-1 8:-4 > 13:1", due), ("unit -1/2 8:1 > 9:1", due),
                            ("unit 1 1:-1 8:-5 > 13:1", None), ("unit -1 8:1 > 9:1", None)]:
            self.tell(word, LIKE, changed(LIKE_ME, ("end", f"{units}\nend")), LIKE_ME_CHART)
        peak = "unit -1/4 1:-5 8:1 > 11:12\nunit -1/3 1:-5 8:1 > 11:-18\nunit -1/2 1:-5 8:1 > 11:6\n"
        self.tell(due, LIKE, changed(LIKE_ME, ("end", f"{peak}end")), LIKE_ME_CHART)

    def test_the_example(self):
        net = changed(LIKE_ME, ("> 8,1:1", "> 8,1:1/2"))
        self.assertEqual(judge(Program.read(LIKE), Net.read(net), Chart.read(LIKE_ME_CHART)), (1, "values"))

    def test_first_and_last(self):
        for number, change in [
            (1, ("6,2:1 7,1:1 7,3:1", "6,2:1 7,1:1 7,3:2")), (1, ("6,2:1 7,1:1 7,3:1", "6,1:1 6,2:1 7,3:1")),
            (1, ("6,2:1 7,1:1 7,3:1", "6,2:1 7,3:1")), (1, ("6:1 > 8:1", "6:1 > 9:1")),
            (2, ("10,1:1 11,2:1 12,3:1", "10,1:1 11,3:1 12,2:1")), (2, ("10,1:1 11,2:1 12,3:1", "11,2:1 12,3:1")),
            (2, ("10:1 > 13:1", "10:1 > 13:1 14:1/7")),
        ]:
            self.tell((number, "values"), ENDS, changed(ENDS_NET, change), ENDS_CHART)
        for change in [("6,2:1 7,1:1 7,3:1", "6,0:1 6,1:-1 6,3:-1 7,1:1 7,3:1"),
                       ("1:-2 6:1 > 8:1", "1:-2 6:1/2 > 8:2"), ("1:-2 6:1 > 8:1", "0:1 1:-2 7:-1 > 8:1"),
                       ("6,2:1 7,1:1 7,3:1", "6,2:1 7,0:1 7,2:-1")]:
            self.tell(None, ENDS, changed(ENDS_NET, change), ENDS_CHART)

    def test_mean(self):
        due = (2, "values")
        for change in [("8,6:1 8,7:3", "8,6:1 8,7:2"), ("8,6:1 8,7:3", "8,6:3 8,7:1"),
                       ("9:-2 10:2", "9:-2 10:1"), ("unit 1 1:-8 8:1 > 10:1\n", "")]:
            self.tell(due, MEAN, changed(MEAN_NET, change), MEAN_CHART)
        self.tell(None, MEAN, changed(MEAN_NET, ("8,6:1 8,7:3", "8,0:1 8,1:-1 8,7:2")), MEAN_CHART)
        self.tell((2, "values"), MEAN.replace("else 0", "else 1"), MEAN_NET, MEAN_CHART)
        self.tell((2, "values"), MEAN.replace("else 0", "else -1"), MEAN_NET, MEAN_CHART)

    def test_mean_of_one_value(self):
        program = "program 2 1\nlet y be 5\nlet m mean y where sign < sign else 4\ntell m\n"
        net = ("net 2 1 9\nrest 0:1 1:1\nsign 0 0:1 2:1\nsign 1 0:1 3:1\nplace 0 4:1\nbend\nunit 1 1:-1 > 5:1\n"
               "heads\nhead 0,1:1 3,2:2 > 6,5:1\nbend\nunit 0 1:-2 6:1 > 8:1\nunit 1 1:-2 6:-1 > 7:1\nend\n")
        chart = ("chart 0 1\nname m 2 4:7 5:8\nname place -1 0:4\nname sign -1 0:2 1:3\nname y 0 5:5\n"
                 "look m 1 0 6\nend\n")
        self.tell(None, program, net, chart)
        self.tell(None, program, changed(net, ("> 6,5:1", "> 6,0:1 6,1:-1")), chart)
        self.tell((2, "values"), program, changed(net, ("> 6,5:1", "> 6,0:1")), chart)


class LookRest(Judging):
    def test_what_each_column_may_hold(self):
        # The scratch of c holds from 0 for some alone to 1 for none.
        for terms, word in [("1:-9/5 8:1", None), ("1:-7/4 8:1", "rest")]:
            net = changed(LIKE_ME, ("unit 4/5 1:-5 8:1", f"unit 4/5 {terms}"))
            self.tell(word and (1, word), LIKE, net, LIKE_ME_CHART)
        for unit, word in [("unit -1 8:1 > 9:1", None), ("unit -1 8:2 > 9:1", "values"), ("unit 0 8:-1 > 9:1", None),
                           ("unit 1/9 1:-1/9 8:-1 > 9:1", None), ("unit 1/9 8:-1 > 9:1", "rest"),
                           ("unit 0 1:1 8:-9 > 9:1", "rest"), ("unit -1/2 1:1 8:-9 > 9:1", "rest"),
                           ("unit -2 1:1 8:1 > 9:1", None), ("unit -3/2 1:1 8:1 > 9:1", "rest")]:
            net = changed(LIKE_ME, ("end", f"{unit}\nend"))
            self.tell(word and (1, word), LIKE, net, LIKE_ME_CHART)

    def test_of_several_columns(self):
        # Of 6 and 7 each holds 0 or 1, and the units may count on nothing else.
        for change, word in [
            (("1:-2 6:1 > 8:1", "1:-1 6:1 > 8:1"), None), (("1:-2 6:1 > 8:1", "1:-1/2 6:1 > 8:1"), (1, "rest")),
            (("1:-2 6:1 > 8:1", "1:-1 6:1 7:-1 > 8:1"), None),
            (("unit 0 1:-2 6:1 > 8:1", "unit -1 6:1 7:1 > 8:1\nunit 0 1:-2 6:1 > 8:1"), (1, "rest")),
            (("unit 0 1:-2 6:1 > 8:1", "unit -1 1:-1 6:1 7:1 > 8:1\nunit 0 1:-2 6:1 > 8:1"), None),
            (("unit 0 1:-2 6:1 > 8:1", "unit 1 1:-1 7:-1 > 8:1"), None),
            (("unit 0 1:-2 6:1 > 8:1", "unit 1 1:-1/2 7:-1 > 8:1"), (1, "rest")),
        ]:
            self.tell(word, ENDS, changed(ENDS_NET, change), ENDS_CHART)

    def test_contents_of_the_mean(self):
        for change, word in [
            (("unit 1 1:-8 8:1", "unit 1 1:-4 8:1"), None), (("unit 1 1:-8 8:1", "unit 1 1:-7/2 8:1"), (2, "rest")),
            (("unit -4 1:-8", "unit -4 1:1"), None), (("unit -4 1:-8", "unit -4 1:3/2"), (2, "rest")),
        ]:
            self.tell(word, MEAN, changed(MEAN_NET, change), MEAN_CHART)


class TheOrderOfTests(Judging):
    def test_two_faults_at_once(self):
        shape = ("name c 1", "name c 0")
        given = ("place 0 4:1", "place 0 4:1 8:1")
        stays = ("end", "bend\nunit -1 > 9:1\nend")
        scores = ("0,1:1 2,2:1 3,3:1", "0,1:1 2,2:1")
        values = ("> 13:1", "> 13:2")
        rest = ("unit -2 1:-5 8:1", "unit -2 1:9 8:1")
        reads = ("unit 4/5 1:-5 8:1", "unit 4/5 1:-5 2:1 8:1")
        for chart, changes, word in [
            ([shape], [given, stays, scores, values, rest], "shape"), ([], [given, stays, scores, values, rest], "given"),
            ([], [stays, scores, values, rest, reads], "stays"), ([], [reads, scores, values, rest], "reads"),
            ([], [scores, values, rest], "scores"), ([], [values, rest], "values"), ([], [rest], "rest"),
        ]:
            self.tell((1, word), LIKE, changed(LIKE_ME, *changes), changed(LIKE_ME_CHART, *chart))
        # Line 0 of a word comes first, but behind all lines of the words ahead of it.
        self.tell((0, "given"), LIKE, changed(LIKE_ME, given, ("place 3 7:1", "place 3 7:2")), LIKE_ME_CHART)
        self.tell((1, "shape"), LIKE, changed(LIKE_ME, ("place 3 7:1", "place 3 7:2")), changed(LIKE_ME_CHART, shape))
        self.tell((1, "given"), LIKE, changed(LIKE_ME, given, ("end", "unit -1 > 4:1\nend")), LIKE_ME_CHART)
        self.tell((0, "stays"), LIKE, changed(LIKE_ME, ("end", "unit -1 > 4:1 8:1\nend")), LIKE_ME_CHART)

    def test_own_tests_line_by_line(self):
        # The first line's last own test counts ahead of the second line's first one, but not ahead
        # of an `order` or `stays` of any line.
        rest = ("unit 1 1:-1 > 5:1", "unit 1 > 5:1")
        reads = ("unit 0 1:-1 2:1 > 7:1", "unit 0 1:-1 2:1 4:1 > 7:1")
        values = ("7:1 > 10:1", "7:1 > 10:2")
        self.tell((1, "rest"), EXPRESSIONS, changed(EXPRESSIONS_NET, rest, reads, values), EXPRESSIONS_CHART)
        self.tell((3, "reads"), EXPRESSIONS, changed(EXPRESSIONS_NET, reads, values), EXPRESSIONS_CHART)
        self.tell((4, "values"), EXPRESSIONS, changed(EXPRESSIONS_NET, values), EXPRESSIONS_CHART)
        one = ("bend\nunit -1 1:-1 4:1 7:1 > 10:1\n", "unit -1 1:-1 4:1 7:1 > 10:1\n")
        chart = changed(EXPRESSIONS_CHART, ("name d 1", "name d 0"))
        self.tell((4, "order"), EXPRESSIONS, changed(EXPRESSIONS_NET, one, rest, reads), chart)
        stays = ("end", "bend\nunit -1 > 10:1\nend")
        self.tell((4, "stays"), EXPRESSIONS, changed(EXPRESSIONS_NET, one, rest, reads, stays), chart)


class AgainstAnotherJudge(unittest.TestCase):
    def test_changed_by_chance(self):
        told = Counter()
        for seed in range(400):
            chance = random.Random(seed)
            signs, n, many = chance.randint(2, 3), chance.randint(1, 3), chance.randint(1, 4)
            lines, name = grown(seed, signs, n, many)
            program = Program(signs, n, lines, name)
            made = Made(signs, n, lines)
            for _ in range(8):
                net, chart = made.net(), made.chart()
                for _ in range(chance.randint(1, 2)):
                    deed = chance.random()
                    if deed < 0.7:
                        net = changed_net(chance, net)
                    elif deed < 0.9:
                        chart = changed_chart(chance, chart, net["width"])
                    else:
                        net, chart = reordered(chance, net, chart)
                try:
                    right = Chart(**chart)
                except BadChart:
                    continue
                due = Judge(signs, n, lines, net, chart).verdict()
                self.assertEqual(judge(program, Net(**net), right), due, seed)
                told[due and (due[0] > 0, due[1])] += 1
        self.assertEqual(len(told), 13, told)
        self.assertGreater(min(told.values()), 4, told)


if __name__ == "__main__":
    unittest.main()
