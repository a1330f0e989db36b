"""Points [2], [15], [16] and [33], and the section lookingnets/changes.py of the interface."""

import inspect
import random
import unittest
from collections import Counter

from lookingnets import changes
from lookingnets.changes import (
    later, lifted, moved, parted, pruned, scaled, shifted, shortened,
)
from lookingnets.errors import BadChange, BadLine, TooMany
from lookingnets.fittings import Fitting, make
from lookingnets.programs import Program
from tests import changely, plainly
from tests.growing import grown
from tests.kinds import any_values
from tests.netly import LIKE_ME
from tests.plainly import pair
from tests.test_fittings import SMALL, read, values_due
from tests.test_judging import LIKE, changed
from tests.test_making import (
    ENDS, ENDS_CHART, ENDS_NET, EXPRESSIONS, EXPRESSIONS_CHART, EXPRESSIONS_NET, LIKE_ME_CHART,
)

ONE = (1, 1)
PARAMETERS = {
    "moved": ["fitting", "order"], "scaled": ["fitting", "column", "factor"],
    "lifted": ["fitting", "stage", "head", "factor"], "shifted": ["fitting", "stage", "head", "amount"],
    "parted": ["fitting", "stage", "names"], "later": ["fitting", "name"], "pruned": ["fitting"],
    "shortened": ["fitting", "n"],
}
LIKE_FITTING = Fitting.read(LIKE + LIKE_ME + LIKE_ME_CHART)
ENDS_FITTING = Fitting.read(ENDS + ENDS_NET + ENDS_CHART)
EXPRESSIONS_FITTING = Fitting.read(EXPRESSIONS + EXPRESSIONS_NET + EXPRESSIONS_CHART)
# One unit serves a and b; c is of its own, and d reads it.
SHARED = Fitting.read("""program 2 1
let a be sign
let b be - 1 sign
let c be 4
let d be c
tell d
net 2 1 11
rest 0:1 1:1
sign 0 0:1 2:1
sign 1 0:1 3:1
place 0 4:1
bend
unit 0 1:-1 2:1 > 5:1 8:1
unit 0 1:-1 3:1 > 6:1 7:1
unit 1 1:-1 > 9:1
bend
unit 0 1:-1 9:1 > 10:1
end
chart 0 1
name a 0 0:5 1:6
name b 0 0:7 1:8
name c 0 4:9
name d 1 4:10
name place -1 0:4
name sign -1 0:2 1:3
end
""")
# What is no fraction above 0, and what is no fraction.
NO_FACTORS = [0, 1, None, True, "1", (0, 1), (-1, 1), (-1, 2), (2, 2), (1, 0), (1,), [1, 1], (True, 1), (1, True),
              (1, 1, 1), (), (1, -1), ((1, 1), 1)]
NO_AMOUNTS = [0, 1, None, True, "1", (0, 2), (2, 2), (1, 0), (1,), [1, 1], (True, 1), (1, True), (False, 1),
              (1, 1, 1), (), (1, -1)]


class Changing(unittest.TestCase):
    def bad(self, what, change, fitting, *values):
        """Asserts that a change cannot be made, with the word that is told, and changes nothing."""
        text = fitting.text()
        with self.assertRaises(BadChange) as caught:
            change(fitting, *values)
        self.assertEqual(caught.exception.what, what, values)
        self.assertEqual(fitting.text(), text)

    def gives(self, due, change, fitting, *values):
        """Asserts the text of the fitting that a change gives, and that the one ahead of it stays."""
        text = fitting.text()
        found = change(fitting, *values)
        self.assertIs(type(found), Fitting)
        self.assertEqual(found.text(), due)
        self.assertEqual(fitting.text(), text)
        self.bears(found)

    def bears(self, fitting):
        """Asserts that a fitting bears the meaning of its program, at some texts."""
        chance = random.Random(repr(fitting))
        for length in {1, fitting.program.n}:
            text = [chance.randrange(fitting.program.signs) for _ in range(length)]
            self.assertEqual(fitting.value_rows(text), values_due(fitting.program, text))


class Interface(unittest.TestCase):
    def test_functions(self):
        for name, parameters in PARAMETERS.items():
            function = getattr(changes, name)
            self.assertTrue(inspect.isfunction(function))
            self.assertEqual(function.__module__, "lookingnets.changes")
            self.assertEqual(list(inspect.signature(function).parameters), parameters)

    def test_parameters_by_name(self):
        fitting = LIKE_FITTING
        self.assertEqual(moved(order=range_list(14), fitting=fitting), fitting)
        self.assertEqual(scaled(factor=ONE, column=8, fitting=fitting), fitting)
        self.assertEqual(lifted(factor=ONE, head=0, stage=0, fitting=fitting), fitting)
        self.assertEqual(shifted(amount=(0, 1), head=0, stage=0, fitting=fitting), fitting)
        self.assertEqual(len(parted(names=["c"], stage=1, fitting=fitting).net.stages()), 3)
        self.assertEqual(later(name="a", fitting=EXPRESSIONS_FITTING).chart.stage("a"), 1)
        self.assertEqual(pruned(fitting=fitting), fitting)
        self.assertEqual(shortened(n=4, fitting=fitting), fitting)


def range_list(width):
    """All columns of a net, in order."""
    return list(range(width))


class Moved(Changing):
    def test_written_out(self):
        fitting = make(read(2, 1, "let a be sign", "tell a"))
        due = ("program 2 1\nlet a be sign\ntell a\n"
               "net 2 1 7\nrest 1:1 3:1\nsign 0 1:1 5:1\nsign 1 1:1 6:1\nplace 0 4:1\n"
               "bend\nunit 0 3:-1 5:1 > 2:1\nunit 0 3:-1 6:1 > 0:1\nend\n"
               "chart 1 3\nname a 0 0:2 1:0\nname place -1 0:4\nname sign -1 0:5 1:6\nend\n")
        for order in [[6, 0, 5, 1, 4, 2, 3], (6, 0, 5, 1, 4, 2, 3)]:
            self.gives(due, moved, fitting, order)

    def test_scores_givings_and_scratch(self):
        # Each column c becomes 13 - c.
        due = LIKE + ("net 2 4 14\nrest 12:1 13:1\nsign 0 11:1 13:1\nsign 1 10:1 13:1\nplace 0 9:1\nplace 1 8:1\n"
                      "place 2 7:1\nplace 3 6:1\nheads\nhead 10,10:1 11,11:1 13,12:1 > 5,12:1\nbend\n"
                      "unit 4/5 5:1 12:-5 > 0:1\nunit -1/5 5:1 12:-5 > 0:-21 1:20\n"
                      "unit -1/4 5:1 12:-5 > 0:20 1:-32 2:12\nunit -1/3 5:1 12:-5 > 1:12 2:-18 3:6\n"
                      "unit -1/2 5:1 12:-5 > 2:6 3:-8 4:2\nunit -1 5:1 12:-5 > 3:2 4:-3\n"
                      "unit -2 5:1 12:-5 > 4:1\nend\n"
                      "chart 13 12\nname c 1 0:4 1:3 2:2 3:1 4:0\nname place -1 0:9 1:8 2:7 3:6\n"
                      "name sign -1 0:11 1:10\nlook c 0 0 5\nend\n")
        self.gives(due, moved, LIKE_FITTING, list(range(13, -1, -1)))

    def test_scratch_columns_in_order(self):
        order = range_list(16)
        order[10], order[12] = 12, 10
        found = moved(ENDS_FITTING, order)
        self.assertEqual(found.chart.look("l"), (0, 1, (10, 11, 12)))
        self.assertEqual(found.net.stages()[0][1][1][1], ((10, 3, ONE), (11, 2, ONE), (12, 1, ONE)))

    def test_back_again(self):
        chance = random.Random(2)
        for seed in range(30):
            fitting = make(Program(2, 3, *grown(seed, 2, 3, 4)))
            order = range_list(fitting.net.width)
            chance.shuffle(order)
            back = [order.index(column) for column in range(len(order))]
            before = list(order)
            found = moved(fitting, order)
            self.assertEqual(order, before)
            self.assertEqual(moved(found, back), fitting)
            self.assertEqual(found.program, fitting.program)

    def test_order(self):
        right = range_list(14)
        wrong = any_values() + [right[:-1], right + [14], right + [13], right[1:] + [14], right[:-1] + [12],
                                [-1] + right[1:], [False] + right[1:], [0, True] + right[2:], right[:-1] + ["13"],
                                right[:-1] + [(13, 1)], right[:-1] + [[13]], right[:-1] + [None],
                                {at: at for at in right}, "01", set(right), range(14)]
        for value in wrong:
            self.bad("order", moved, LIKE_FITTING, value)
            if isinstance(value, list):
                self.bad("order", moved, LIKE_FITTING, tuple(value))
        self.assertEqual(moved(LIKE_FITTING, tuple(right)), LIKE_FITTING)


class Scaled(Changing):
    def test_a_scratch_column(self):
        due = LIKE + LIKE_ME.replace("> 8,1:1", "> 8,1:3").replace("8:1 >", "8:1/3 >") + LIKE_ME_CHART
        self.gives(due, scaled, LIKE_FITTING, 8, (3, 1))
        due = LIKE + LIKE_ME.replace("> 8,1:1", "> 8,1:2/5").replace("8:1 >", "8:5/2 >") + LIKE_ME_CHART
        self.gives(due, scaled, LIKE_FITTING, 8, (2, 5))
        self.gives(LIKE_FITTING.text(), scaled, scaled(LIKE_FITTING, 8, (2, 5)), 8, (5, 2))

    def test_wherever_it_stands(self):
        # The column 14 is not charted, and stands everywhere; so does 15, for comparison.
        net = changed(
            LIKE_ME, ("2 4 14", "2 4 16"), ("rest 0:1 1:1", "rest 0:1 1:1 14:5 15:1"),
            ("sign 0 0:1 2:1", "sign 0 0:1 2:1 14:-1/2"), ("place 3 7:1", "place 3 7:1 14:9 15:9"),
            ("> 8,1:1\n", "> 8,1:1\nhead 0,14:5 14,3:6 14,14:8 14,15:3 15,14:1 15,15:1 > "
                          "14,3:5 14,14:7 14,15:3 15,14:4 15,15:1\n"),
            ("end", "unit 1/2 3:1 14:3 15:1 > 14:3 15:1\nunit 0 > 14:-1/3\nend"))
        due = changed(
            net, ("14:5 15:1", "14:10 15:1"), ("14:-1/2", "14:-1"), ("14:9 15:9", "14:18 15:9"),
            ("0,14:5 14,3:6 14,14:8 14,15:3 15,14:1", "0,14:5/2 14,3:3 14,14:2 14,15:3/2 15,14:1/2"),
            ("14,3:5 14,14:7 14,15:3 15,14:4", "14,3:10 14,14:7 14,15:6 15,14:2"),
            ("3:1 14:3 15:1 > 14:3", "3:1 14:3/2 15:1 > 14:6"), ("14:-1/3", "14:-2/3"))
        self.gives(LIKE + due + LIKE_ME_CHART, scaled, Fitting.read(LIKE + net + LIKE_ME_CHART), 14, (2, 1))

    def test_words(self):
        wide = Fitting.read(LIKE + LIKE_ME.replace("2 4 14", "2 4 16") + changed(
            LIKE_ME_CHART, ("4:13", "4:13 5:15")))
        for fitting, columns in [(LIKE_FITTING, [0, 1, 2, 3, 4, 7, 9, 13, 14, -1, 1999]),
                                 (wide, [0, 1, 13, 15, 16])]:
            for column in columns + any_values() + ["8", (8,), [8], (8, 1), 8.0]:
                if column != 7 or column in columns:
                    self.bad("column", scaled, fitting, column, ONE)
                    self.bad("column", scaled, fitting, column, None)
        for column in [8, 14]:
            for factor in any_values() + NO_FACTORS:
                if factor != (1, 2):
                    self.bad("factor", scaled, wide, column, factor)
            scaled(wide, column, (1, 10 ** 18 - 1))


class Lifted(Changing):
    def test_written_out(self):
        due = LIKE + changed(LIKE_ME, ("0,1:1 2,2:1 3,3:1", "0,1:5/2 2,2:5/2 3,3:5/2")) + LIKE_ME_CHART
        self.gives(due, lifted, LIKE_FITTING, 0, 0, (5, 2))
        self.gives(LIKE_FITTING.text(), lifted, lifted(LIKE_FITTING, 0, 0, (5, 2)), 0, 0, (2, 5))
        due = ENDS + changed(ENDS_NET, ("0,4:-2 0,5:-1 5,2:4", "0,4:-1 0,5:-1/2 5,2:2")) + ENDS_CHART
        self.gives(due, lifted, ENDS_FITTING, 0, 1, (1, 2))

    def test_factor(self):
        for factor in any_values() + NO_FACTORS:
            if factor != (1, 2):
                self.bad("factor", lifted, LIKE_FITTING, 0, 0, factor)
        lifted(LIKE_FITTING, 0, 0, (1, 10 ** 18 - 1))


class Shifted(Changing):
    def test_written_out(self):
        due = LIKE + changed(LIKE_ME, ("0,1:1 2,2:1", "0,0:3/2 0,1:1 2,2:1")) + LIKE_ME_CHART
        self.gives(due, shifted, LIKE_FITTING, 0, 0, (3, 2))
        self.gives(LIKE_FITTING.text(), shifted, shifted(LIKE_FITTING, 0, 0, (3, 2)), 0, 0, (-3, 2))
        self.gives(LIKE_FITTING.text(), shifted, LIKE_FITTING, 0, 0, (0, 1))
        due = ENDS + changed(ENDS_NET, ("0,4:-2 0,5:-1", "0,0:-7 0,4:-2 0,5:-1")) + ENDS_CHART
        self.gives(due, shifted, ENDS_FITTING, 0, 1, (-7, 1))

    def test_one_in_another_place(self):
        fitting = moved(LIKE_FITTING, list(range(13, -1, -1)))
        self.assertEqual(shifted(fitting, 0, 0, (2, 1)).net.stages()[0][1][0][0],
                         ((10, 10, ONE), (11, 11, ONE), (13, 12, ONE), (13, 13, (2, 1))))

    def test_amount(self):
        for amount in any_values() + NO_AMOUNTS:
            if amount != (1, 2):
                self.bad("amount", shifted, LIKE_FITTING, 0, 0, amount)


class StagesAndHeads(Changing):
    def test_words_in_order(self):
        three = make(read(2, 2, "let a be sign", "let c count where a = sign", "let f first a where a = a else 0",
                          "tell f"))
        self.assertEqual([kind for kind, _ in three.net.stages()], ["bend", "heads", "bend"])
        for change, word, right in [(lifted, "factor", ONE), (shifted, "amount", (-1, 2))]:
            for stage in [0, 2, 3, -1, -2, 100, "1", (1,), [1], 1.0, True] + [
                    value for value in any_values() if value != 1 or value is True]:
                for head, last in [(0, right), (5, right), (None, None), (0, [])]:
                    self.bad("stage", change, three, stage, head, last)
            for head in [2, 3, -1, 100, "0", (0,), [0], True, False] + [
                    value for value in any_values() if value not in (0, 1) or isinstance(value, bool)]:
                for last in [right, None, True]:
                    self.bad("head", change, three, 1, head, last)
            for head in [0, 1]:
                self.bad(word, change, three, 1, head, None)
                self.bears(change(three, 1, head, right))
        empty = Fitting.read(LIKE + changed(LIKE_ME, ("heads\n", "heads\nheads\n")) + changed(
            LIKE_ME_CHART, ("name c 1", "name c 2"), ("look c 0", "look c 1")))
        self.bad("head", lifted, empty, 0, 0, ONE)
        self.bad("head", shifted, empty, 0, 0, ONE)


class Parted(Changing):
    def test_written_out(self):
        units = "unit 0 1:-1 2:1 > 7:1\nunit 0 1:-1 3:1 > 8:1\n"
        due = EXPRESSIONS + changed(EXPRESSIONS_NET, (units, "bend\n" + units)) + changed(
            EXPRESSIONS_CHART, ("name c 0", "name c 1"), ("name d 1", "name d 2"))
        for names in [["c"], ("c",)]:
            self.gives(due, parted, EXPRESSIONS_FITTING, 0, names)
        due = EXPRESSIONS + changed(
            EXPRESSIONS_NET, ("unit 1 1:-1 > 5:1\n", ""), ("unit 1 1:-1 > 6:1\n", ""),
            (units, units + "bend\nunit 1 1:-1 > 5:1\nunit 1 1:-1 > 6:1\n")) + changed(
            EXPRESSIONS_CHART, ("name a 0", "name a 1"), ("name b 0", "name b 1"), ("name d 1", "name d 2"))
        for names in [["b", "a"], ("a", "b")]:
            self.gives(due, parted, EXPRESSIONS_FITTING, 0, names)

    def test_all_names_and_the_last_bend(self):
        due = EXPRESSIONS + changed(EXPRESSIONS_NET, ("bend\nunit 1 1:-1 > 5:1", "bend\nbend\nunit 1 1:-1 > 5:1"))
        due += changed(EXPRESSIONS_CHART, *[(f"name {name} 0", f"name {name} 1") for name in "abc"],
                       ("name d 1", "name d 2"))
        self.gives(due, parted, EXPRESSIONS_FITTING, 0, ["c", "a", "b"])
        due = EXPRESSIONS + changed(EXPRESSIONS_NET, ("bend\nunit -1 1:-1 4:1 7:1", "bend\nbend\nunit -1 1:-1 4:1 7:1"))
        self.gives(due + changed(EXPRESSIONS_CHART, ("name d 1", "name d 2")), parted, EXPRESSIONS_FITTING, 1, ["d"])

    def test_looks_move_along(self):
        fitting = make(read(2, 2, "let a be sign", "let c count where a = sign", "let b be 1", "tell c"))
        found = parted(fitting, 0, ["b"])
        self.assertEqual([kind for kind, _ in found.net.stages()], ["bend", "bend", "heads", "bend"])
        self.assertEqual([found.chart.stage(name) for name in ("a", "b", "c", "sign", "place")], [0, 1, 3, -1, -1])
        self.assertEqual(found.chart.look("c")[0], 2)
        found = parted(fitting, 2, ["c"])
        self.assertEqual((found.chart.stage("c"), found.chart.look("c")[0]), (3, 1))
        self.assertEqual(found.net.stages()[2], ("bend", ()))

    def test_units_that_serve_none(self):
        net = changed(LIKE_ME, ("2 4 14", "2 4 15"), ("unit 4/5", "unit 5 >\nunit 4/5"),
                      ("end", "unit 1 > 14:1\nend"))
        fitting = Fitting.read(LIKE + net + LIKE_ME_CHART)
        found = parted(fitting, 1, ["c"])
        self.assertEqual(found.net.stages()[1], ("bend", (((), (5, 1), ()), ((), ONE, ((14, ONE),)))))
        self.assertEqual(found.net.stages()[2][1], LIKE_FITTING.net.stages()[1][1])

    def test_units_that_serve_several(self):
        for names in [["a"], ["b"], ["a", "c"], ("c", "b")]:
            self.bad("shared", parted, SHARED, 0, names)
        found = parted(SHARED, 0, ["a", "b"])
        self.assertEqual([len(units) for _, units in found.net.stages()], [1, 2, 1])
        self.bears(found)
        self.assertEqual([len(units) for _, units in parted(SHARED, 0, ["c"]).net.stages()], [2, 1, 1])
        self.bears(parted(SHARED, 0, ("b", "c", "a")))

    def test_words_in_order(self):
        fitting = make(read(2, 2, "let a be sign", "let c count where a = sign", "let f first a where a = a else 0",
                            "tell f"))
        for stage in [1, 3, -1, 100, "0", (0,), [0], True, False] + [
                value for value in any_values() if value != 0 or value is False]:
            for names in [["a"], ["x"], None]:
                self.bad("stage", parted, fitting, stage, names)
        for names in any_values() + [
            [], (), ["c"], ["a", "a"], ["a", "c"], ["sign"], ["place"], ["x"], ["a", "sign"], ["a", None], ["a", 0],
            "a", ["let"], {"a": 0}, [["a"]], [("a",)], ["a", ["a"]], [b"a"], ["A"], [True], [""],
        ]:
            self.bad("names", parted, fitting, 0, names)
            self.bad("names", parted, SHARED, 1, names)
        self.bad("names", parted, SHARED, 0, ["a", "d"])
        self.bad("names", parted, fitting, 2, ["a"])
        self.assertEqual(len(parted(fitting, 2, ["f"]).net.stages()), 4)
        arguments = ["c", "a"]
        parted(EXPRESSIONS_FITTING, 0, arguments)
        self.assertEqual(arguments, ["c", "a"])

    def test_too_many_stages(self):
        def long(fitting, many):
            """A fitting with empty bends behind its stages, so many stages in all."""
            more = "bend\n" * (many - len(fitting.net.stages()))
            return Fitting.read(fitting.program.text() + fitting.net.text().removesuffix("end\n") + more + "end\n"
                                + fitting.chart.text())

        for fitting, names in [(EXPRESSIONS_FITTING, ["c"]), (SHARED, ["a", "b"])]:
            self.assertEqual(len(parted(long(fitting, 99), 0, names).net.stages()), 100)
            with self.assertRaises(TooMany) as caught:
                parted(long(fitting, 100), 0, names)
            self.assertEqual((caught.exception.what, caught.exception.count), ("stages", 101))
        self.bad("stage", parted, long(SHARED, 100), 100, ["c"])
        self.bad("names", parted, long(SHARED, 100), 0, [])
        self.bad("shared", parted, long(SHARED, 100), 0, ["a"])


class Later(Changing):
    def test_written_out(self):
        due = EXPRESSIONS + changed(EXPRESSIONS_NET, ("unit 1 1:-1 > 5:1\n", ""), ("end", "unit 1 1:-1 > 5:1\nend"))
        self.gives(due + changed(EXPRESSIONS_CHART, ("name a 0", "name a 1")), later, EXPRESSIONS_FITTING, "a")
        due = changed(EXPRESSIONS_NET, ("unit 1 1:-1 > 5:1\n", ""), ("unit 1 1:-1 > 6:1\n", ""),
                      ("end", "unit 1 1:-1 > 6:1\nunit 1 1:-1 > 5:1\nend"))
        chart = changed(EXPRESSIONS_CHART, ("name a 0", "name a 1"), ("name b 0", "name b 1"))
        self.gives(EXPRESSIONS + due + chart, later, later(EXPRESSIONS_FITTING, "b"), "a")

    def test_several_units_and_a_look(self):
        two = Fitting.read(ENDS + changed(ENDS_NET, ("end", "bend\nunit 3 >\nbend\nend")) + ENDS_CHART)
        units = "unit 0 1:-2 6:1 > 8:1\nunit 0 1:-2 7:1 > 9:1\n"
        due = changed(ENDS_NET, (units, ""), ("end", f"bend\nunit 3 >\n{units}bend\nend"))
        self.gives(ENDS + due + changed(ENDS_CHART, ("name f 1", "name f 2")), later, two, "f")
        due = changed(ENDS_NET, (units, ""), ("end", f"bend\nunit 3 >\nbend\n{units}end"))
        chart = changed(ENDS_CHART, ("name f 1", "name f 3"))
        self.gives(ENDS + due + chart, later, later(two, "f"), "f")
        self.bad("bend", later, later(later(two, "f"), "f"), "f")

    def test_words_in_order(self):
        fitting = make(read(2, 2, "let a be sign", "let b be 1", "let c count where a = sign", "let d be + a c",
                            "let e be 0", "tell d"))
        self.assertEqual([kind for kind, _ in fitting.net.stages()], ["bend", "heads", "bend", "bend"])
        for name in any_values() + ["sign", "place", "x", "let", "A", ("a",), ["a"], b"a", "a ", {"a": 0}]:
            self.bad("name", later, fitting, name)
            self.bad("name", later, SHARED, name if name != "a" else None)
        for name in ["a", "b", "e", "d"]:
            self.bad("bend", later, fitting, name)
        self.bad("read", later, fitting, "c")
        self.bad("read", later, SHARED, "c")
        self.bad("read", later, EXPRESSIONS_FITTING, "c")
        self.bad("shared", later, SHARED, "a")
        self.bad("shared", later, SHARED, "b")
        self.bad("bend", later, SHARED, "d")
        # Both at once: d reads a in the next bend, and the units of a serve b as well.
        text = changed(SHARED.text(), ("let d be c", "let d be + * 0 a c"))
        both = Fitting.read(text)
        self.bad("read", later, both, "a")
        self.bad("shared", later, both, "b")
        self.bad("read", later, both, "c")

    def test_looks_that_read_it_do_not_count(self):
        # c hangs on a through a look, whose entry has another stage than the next.
        fitting = make(read(2, 2, "let a be sign", "let b be 1", "let d be b", "let c count where a = sign", "tell c"))
        found = later(fitting, "a")
        self.assertEqual(found.chart.stage("a"), 1)
        self.bears(found)
        # A name whose line stands further on does not count either.
        far = parted(fitting, 1, ["d"])
        self.assertEqual((far.chart.stage("b"), far.chart.stage("d")), (0, 2))
        self.bears(later(far, "b"))
        self.bad("read", later, later(far, "b"), "b")


PRUNED = """program 2 1
let y be 5
let f first y where sign = sign else 5
let g first y where sign = sign else 5
let h be + sign sign
let k be h
tell f
net 2 1 15
rest 0:1 1:1
sign 0 0:1 2:1 8:1 12:7
sign 1 0:1 3:1 8:1
place 0 4:1 8:-1
bend
bend
unit 1 1:-1 > 5:1
unit 0 1:-1 2:1 > 8:1
unit 0 1:-1 3:1 > 9:1 12:2
unit 3 8:1 9:1 >
heads
head 2,2:1 12,8:1 > 13,9:1 13,12:1
head 0,1:1 2,2:2 3,3:2 >
bend
unit 0 1:-1 8:1 > 10:1
unit 0 1:-1 9:1 > 11:1
bend
unit 1 1:-1 > 6:1 7:1
unit 0 14:-1 > 7:1
heads
heads
head 13,10:1 >
end
chart 0 1
name f 4 5:6
name g 4 5:7
name h 1 0:8 2:9
name k 3 0:10 2:11
name place -1 0:4
name sign -1 0:2 1:3
name y 1 5:5
look f 2 1
look g 2 1 14
end
"""


class Pruned(Changing):
    def test_written_out(self):
        # f and g have one head; one unit serves both, and one serves h and gives to what is not charted.
        self.gives("""program 2 1
let y be 5
let f first y where sign = sign else 5
tell f
net 2 1 9
rest 0:1 1:1
sign 0 0:1 2:1 7:7
sign 1 0:1 3:1
place 0 4:1
bend
unit 1 1:-1 > 5:1
unit 0 1:-1 3:1 > 7:2
unit 3 >
heads
head 2,2:1 > 8,7:1
head 0,1:1 2,2:2 3,3:2 >
bend
unit 1 1:-1 > 6:1
heads
head >
end
chart 0 1
name f 2 5:6
name place -1 0:4
name sign -1 0:2 1:3
name y 0 5:5
look f 1 1
end
""", pruned, Fitting.read(PRUNED))

    def test_heads_that_go(self):
        net = ("net 2 1 8\nrest 0:1 1:1\nsign 0 0:1 2:1 6:7\nsign 1 0:1 3:1\nplace 0 4:1\n"
               "bend\nunit 1 1:-1 > 5:1\nunit 0 1:-1 3:1 > 6:2\nunit 3 >\nheads\nhead 2,2:1 > 7,6:1\n"
               "heads\nhead >\nend\n")
        chart = "chart 0 1\nname place -1 0:4\nname sign -1 0:2 1:3\nname y 0 5:5\nend\n"
        self.gives("program 2 1\nlet y be 5\ntell y\n" + net + chart, pruned,
                   Fitting.read(PRUNED.replace("tell f", "tell y")))

    def test_heads_that_are_renumbered(self):
        due = "program 2 2\nlet l last sign where sign < place else -1\ntell l\n" + (
            "net 2 2 12\nrest 0:1 1:1\nsign 0 0:1 2:1\nsign 1 0:1 3:1\nplace 0 4:1\nplace 1 5:1\nheads\n"
            "head 0,4:-2 0,5:-1 5,2:4 > 6,1:1 7,2:1 8,3:1\nbend\nunit 0 1:-2 6:1 > 9:1\n"
            "unit 0 1:-2 7:1 > 10:1\nunit 0 1:-2 8:1 > 11:1\nend\n"
            "chart 0 1\nname l 1 -1:9 0:10 1:11\nname place -1 0:4 1:5\nname sign -1 0:2 1:3\n"
            "look l 0 0 6 7 8\nend\n")
        fitting = Fitting.read(ENDS.replace("tell f", "tell l") + ENDS_NET + ENDS_CHART)
        self.gives(due, pruned, fitting)

    def test_nothing_to_prune(self):
        for fitting in [LIKE_FITTING, make(read(2, 3, "tell place"))]:
            self.assertEqual(pruned(fitting), fitting)
        # Empty stages go even then.
        empty = Fitting.read(LIKE + changed(LIKE_ME, ("heads\n", "bend\nheads\nheads\n"), ("end", "heads\nbend\nend"))
                             + changed(LIKE_ME_CHART, ("name c 1", "name c 3"), ("look c 0", "look c 2")))
        self.assertEqual(pruned(empty), LIKE_FITTING)

    def test_all_lines_go(self):
        for program, net, chart in [(ENDS, ENDS_NET, ENDS_CHART), (LIKE, LIKE_ME, LIKE_ME_CHART),
                                    (EXPRESSIONS, EXPRESSIONS_NET, EXPRESSIONS_CHART)]:
            told = program.split("\n")[-2]
            fitting = Fitting.read(program.replace(told, "tell place") + net + chart)
            self.assertEqual(pruned(fitting), make(read(fitting.program.signs, fitting.program.n, "tell place")))

    def test_the_made_fitting(self):
        less = 0
        for seed in range(120):
            chance = random.Random(seed)
            signs, n = chance.randint(2, 4), chance.randint(1, 5)
            lines, _ = grown(seed + 50, signs, n, chance.randint(1, 9))
            told = chance.choice(lines)[1]
            needed = {told} | plainly.behind(told, lines)
            fitting = make(Program(signs, n, lines, told))
            kept = [line for line in lines if line[1] in needed]
            self.assertEqual(pruned(fitting), make(Program(signs, n, kept, told)))
            less += len(kept) < len(lines)
        self.assertGreater(less, 60)


class Shortened(Changing):
    def test_written_out(self):
        net = changed(LIKE_ME, ("net 2 4", "net 2 2"), ("place 2 6:1\nplace 3 7:1\n", ""))
        due = LIKE.replace("2 4", "2 2") + net + LIKE_ME_CHART
        self.gives(due, shortened, LIKE_FITTING, 2)
        self.gives(LIKE_FITTING.text(), shortened, LIKE_FITTING, 4)
        self.assertEqual(shortened(shortened(LIKE_FITTING, 3), 2), shortened(LIKE_FITTING, 2))

    def test_the_program(self):
        fitting = make(read(2, 3, "let a table place sign : 0 1 2 3 4 5",
                            "let c count where place pairs place 0:0 1:2 2:0", "tell c"))
        found = shortened(fitting, 2)
        self.assertEqual(found.program, read(2, 2, "let a table place sign : 0 1 2 3",
                                             "let c count where place pairs place 0:0", "tell c"))
        self.assertEqual(found.chart, fitting.chart)
        self.assertEqual(found.net.stages(), fitting.net.stages())
        self.assertEqual(found.net.place_rows(), fitting.net.place_rows()[:2])
        self.assertEqual((found.net.n, found.net.width), (2, fitting.net.width))
        for text in plainly.texts(2, 2):
            self.assertEqual(found.value_rows(text), values_due(found.program, text))

    def test_places(self):
        for value in any_values() + ["2", 0, 5, -1, (2, 1), [2], 2.0]:
            if value != 1 or value is True:
                self.bad("places", shortened, LIKE_FITTING, value)
        self.assertEqual(shortened(LIKE_FITTING, 1).program.n, 1)


def some_fraction(chance, above):
    """A fraction, above 0 if this is said."""
    p = chance.choice((1, 1, 2, 3, 5, 7) if above else (-3, -1, 0, 1, 2, 5))
    return pair(plainly.Fraction(p, chance.choice((1, 2, 3, 4))))


def tried_change(chance, fitting):
    """The name and the values of a change that may be made, by chance."""
    stages = fitting.net.stages()
    heads = [(at, index) for at, (kind, parts) in enumerate(stages) if kind == "heads" for index in range(len(parts))]
    names = [name for name, _, _ in fitting.chart.names()]
    free = [column for column in range(fitting.net.width)
            if column not in (fitting.chart.one, fitting.chart.rest)
            and column not in [at for name in names for _, at in fitting.chart.columns(name)]]
    kind = chance.choice(["moved", "scaled", "lifted", "shifted", "parted", "parted", "later", "later", "pruned",
                          "shortened"])
    if kind == "moved":
        order = range_list(fitting.net.width)
        chance.shuffle(order)
        return kind, (order,)
    if kind == "scaled" and free:
        return kind, (chance.choice(free), some_fraction(chance, True))
    if kind in ("lifted", "shifted") and heads:
        return kind, chance.choice(heads) + (some_fraction(chance, kind == "lifted"),)
    if kind == "parted" and stages:
        stage = chance.randrange(len(stages))
        return kind, (stage, [name for name in names if fitting.chart.stage(name) == stage and chance.random() < 0.6])
    if kind == "later" and len(names) > 2:
        ahead = [name for name in fitting.program.names()
                 if [stage[0] for stage in stages[fitting.chart.stage(name) + 1:][:1]] == ["bend"]]
        return kind, (chance.choice(ahead or fitting.program.names()),)
    if kind == "pruned" and chance.random() < 0.3:
        return kind, ()
    return "shortened", (chance.randint(max(1, fitting.program.n - 1), fitting.program.n),)


class Rows(Changing):
    def test_rows_of_changes_by_chance(self):
        done = Counter()
        for seed in range(60):
            chance = random.Random(seed)
            signs, n = chance.randint(2, 3), chance.randint(1, 4)
            lines, told = grown(seed + 2000, signs, n, chance.randint(1, 6))
            fitting = make(Program(signs, n, lines, chance.choice([told, lines[0][1]])))
            for _ in range(12):
                kind, values = tried_change(chance, fitting)
                before = changely.bundle(fitting)
                try:
                    found = getattr(changes, kind)(fitting, *values)
                except BadChange as error:
                    self.assertIn(error.what, ("names", "stage", "bend", "read", "shared"))
                    continue
                self.assertEqual(changely.bundle(found), getattr(changely, kind)(before, *values), (seed, kind))
                self.assertEqual(changely.bundle(fitting), before)
                self.bears(found)
                fitting = found
                done[kind] += 1
        self.assertEqual(len(done), 8, done)
        self.assertGreater(min(done.values()), 10, done)

    def test_each_change_of_each_kind_of_line(self):
        for signs, n, rows in SMALL:
            fitting = make(read(signs, n, *rows))
            width = fitting.net.width
            fitting = moved(fitting, range_list(width)[::-1])
            for name in fitting.program.names():
                stage = fitting.chart.stage(name)
                fitting = parted(fitting, stage, [name])
            for look in fitting.chart.looks():
                fitting = lifted(fitting, look[1], look[2], (3, 2))
                fitting = shifted(fitting, look[1], look[2], (-5, 1))
                for column in look[3]:
                    fitting = scaled(fitting, column, (2, 7))
            for text in plainly.texts(signs, n):
                self.assertEqual(fitting.value_rows(text), values_due(fitting.program, text))
            for m in range(n, 0, -1):
                fitting = shortened(pruned(fitting), m)
                for text in plainly.texts(signs, m)[-10:]:
                    self.assertEqual(fitting.value_rows(text), values_due(fitting.program, text))

    def test_joined_and_then_changed(self):
        front = make(read(2, 3, "let a be - 1 sign", "tell a"))
        back = make(read(3, 3, "let b table sign : 2 0 1", "let c last place where b > sign else -1", "tell c"))
        fitting = shortened(pruned(moved(front.then(back), range_list(front.then(back).net.width)[::-1])), 2)
        for text in plainly.texts(2, 2):
            between = [1 - sign for sign in text]
            self.assertEqual(fitting(text), plainly.pairs(
                plainly.meaning(3, 3, back.program.lines(), between)["c"]))
        with self.assertRaises(BadLine):
            for _ in range(13):
                fitting = front.then(fitting) if fitting.program.n == 3 else shortened(front, 2).then(fitting)


if __name__ == "__main__":
    unittest.main()
