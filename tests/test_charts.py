"""Points [2] and [28], and the section lookingnets/charts.py of the interface; the texts of charts
are in test_chart_texts.
"""

import copy
import inspect
import itertools
import random
import unittest
from fractions import Fraction

from lookingnets.charts import Chart
from lookingnets.errors import BadChart, NoName
from tests.kinds import any_values
from tests.plainly import pair

ONE = (1, 1)
ZERO = (0, 1)
HALF = (1, 2)
METHODS = {
    "__init__": ["self", "one", "rest", "names", "looks"], "names": ["self"], "looks": ["self"],
    "columns": ["self", "name"], "stage": ["self", "name"], "column": ["self", "name", "value"],
    "look": ["self", "name"], "charted": ["self"], "text": ["self"], "read": ["text"],
}
RESERVED = ("program let tell be table first last count mean where pairs else min max mod div and or "
            "not if").split()
# What is no column, and what is no fraction that is a value.
NO_COLUMNS = [-1, 2000, 2001, 10 ** 17, None, True, False, "0", (0,), [0], (), ONE]
NO_VALUES = [1, 0, None, True, "1", (1,), (2, 2), (0, 2), (1, 0), (1, -1), [1, 1], (True, 1), (1, True),
             (100, 1), (-100, 1), (1, 10000), (199, 2), ((1, 1), 1), (1, 1, 1), ()]
NO_NAMES = RESERVED + ["", "A", "1a", "a_", "a b", "abcdefg", "a\n", "-", None, True, 0, ("a",), ["a"], b"a"]


def wrong_entries():
    """Values that are no entries of a chart."""
    wrong = any_values() + [["a", [], 0], ("a", []), ("a", [], 0, 0), ("a", 0, []), ([], "a", 0), (("a", [], 0),)]
    wrong += [(name, [], 0) for name in NO_NAMES]
    wrong += [("a", [], stage) for stage in [-2, 100, 10 ** 17, None, True, False, "0", (0,), [], ONE]]
    wrong += [("a", pairs, 0) for pairs in [None, 0, "ab", True, {ONE: 5}, ONE, (ONE, 5), [(ONE, 5), None]]]
    wrong += [("a", [(ONE, 5), item], 0) for item in
              [[ZERO, 6], (ZERO,), (ZERO, 6, 7), (6, ZERO), (), "0:6", (ONE, 6), (ONE, 5)]]
    wrong += [("a", ((value, 5),), 0) for value in NO_VALUES]
    wrong += [("a", [(ONE, column)], 0) for column in NO_COLUMNS]
    return wrong


def wrong_looks():
    """Values that are no look entries of a chart."""
    wrong = any_values() + [["a", 0, 0, []], ("a", 0, 0), ("a", 0, 0, [], []), ("a", [], 0, 0), (0, 0, "a", [])]
    wrong += [(name, 0, 0, []) for name in NO_NAMES]
    wrong += [("a", stage, 0, []) for stage in [-1, 100, 10 ** 17, None, True, False, "0", (0,), ONE]]
    wrong += [("a", 0, head, []) for head in [-1, 1000, 10 ** 17, None, True, False, "0", (0,), ONE]]
    wrong += [("a", 0, 0, scratch) for scratch in [None, 0, "56", True, {5: True}]]
    wrong += [("a", 0, 0, [5, column]) for column in NO_COLUMNS]
    return wrong


def like_me():
    """The arguments of the chart of the first example of [39], written out."""
    return {
        "one": 0, "rest": 1,
        "names": [("sign", [(ZERO, 2), (ONE, 3)], -1), ("place", [((u, 1), 4 + u) for u in range(4)], -1),
                  ("c", [((k, 1), 9 + k) for k in range(5)], 1)],
        "looks": [("c", 0, 0, [8])],
    }


class Interface(unittest.TestCase):
    def test_methods(self):
        self.assertEqual(Chart.__module__, "lookingnets.charts")
        for name, parameters in METHODS.items():
            self.assertIn(name, vars(Chart))
            self.assertEqual(list(inspect.signature(getattr(Chart, name)).parameters), parameters)
        for name in ["__eq__", "__str__", "__repr__", "__len__"]:
            self.assertIn(name, vars(Chart))
        self.assertIsInstance(vars(Chart)["read"], staticmethod)

    def test_keywords_and_defaults(self):
        chart = Chart(0, 1, [("c", [(ZERO, 2)], 3)])
        self.assertEqual(chart.looks(), ())
        self.assertEqual(Chart(names=[("c", [(ZERO, 2)], 3)], rest=1, one=0, looks=[]), chart)
        self.assertEqual(Chart(0, 1, [("c", [], 3)], [("c", 4, 5, [6])]).look(name="c"), (4, 5, (6,)))
        self.assertEqual((chart.columns(name="c"), chart.stage(name="c")), (((ZERO, 2),), 3))
        self.assertEqual(chart.column(value=ZERO, name="c"), 2)
        self.assertEqual(Chart.read(text="chart 0 1\nname c 3 0:2\nend\n"), chart)


class Parts(unittest.TestCase):
    def test_written_out(self):
        chart = Chart(**like_me())
        self.assertEqual((chart.one, chart.rest), (0, 1))
        places = (((0, 1), 4), ((1, 1), 5), ((2, 1), 6), ((3, 1), 7))
        many = (((0, 1), 9), ((1, 1), 10), ((2, 1), 11), ((3, 1), 12), ((4, 1), 13))
        self.assertEqual(chart.names(), (
            ("c", many, 1), ("place", places, -1), ("sign", ((ZERO, 2), (ONE, 3)), -1)))
        self.assertEqual(chart.looks(), (("c", 0, 0, (8,)),))
        self.assertEqual(chart.columns("c"), many)
        self.assertEqual(chart.columns("sign"), ((ZERO, 2), (ONE, 3)))
        self.assertEqual([chart.stage(name) for name in ("c", "place", "sign")], [1, -1, -1])
        self.assertEqual([chart.column("place", (u, 1)) for u in range(5)], [4, 5, 6, 7, None])
        self.assertEqual(chart.look("c"), (0, 0, (8,)))
        self.assertEqual(chart.charted(), list(range(14)))
        self.assertEqual(len(chart), 3)
        self.assertIs(bool(chart), True)
        self.assertEqual(repr(chart), "Chart(3 names)")

    def test_nothing_but_one_and_rest(self):
        for names, looks in itertools.product([[], ()], repeat=2):
            chart = Chart(1999, 0, names, looks)
            self.assertEqual((chart.one, chart.rest, chart.names(), chart.looks()), (1999, 0, (), ()))
            self.assertEqual(chart.charted(), [0, 1999])
            self.assertEqual(len(chart), 0)
            self.assertIs(bool(chart), True)
            self.assertEqual(repr(chart), "Chart(0 names)")

    def test_any_order_and_lists_and_tuples(self):
        names = [("b", [((2, 1), 5), ((-1, 2), 9), ((-2, 1), 3), ((1, 3), 4)], 7), ("a9", [], 0),
                 ("a10", [(ONE, 8)], -1), ("place", (), 99), ("z", (((99, 1), 6), ((-99, 1), 7)), 2)]
        looks = [("z", 99, 0, [12, 2, 10]), ("a9", 0, 999, ()), ("b", 5, 5, (1999,))]
        due = (("a10", ((ONE, 8),), -1), ("a9", (), 0),
               ("b", (((-2, 1), 3), ((-1, 2), 9), ((1, 3), 4), ((2, 1), 5)), 7), ("place", (), 99),
               ("z", (((-99, 1), 7), ((99, 1), 6)), 2))
        due_looks = (("a9", 0, 999, ()), ("b", 5, 5, (1999,)), ("z", 99, 0, (2, 10, 12)))
        for order in itertools.permutations(range(5)):
            some = [names[at] for at in order]
            chart = Chart(1, 0, some, [looks[at] for at in order if at < 3])
            self.assertEqual(chart.names(), due)
            self.assertEqual(chart.looks(), due_looks)
            self.assertEqual(Chart(1, 0, tuple(some), tuple(looks)), chart)
            inner = [(name, tuple(reversed(list(pairs))), stage) for name, pairs, stage in some]
            behind = [(name, stage, head, list(reversed(list(scratch))))
                      for name, stage, head, scratch in looks]
            self.assertEqual(Chart(1, 0, inner, behind), chart)
        self.assertEqual(chart.charted(), [0, 1, 2, 3, 4, 5, 6, 7, 8, 9, 10, 12, 1999])
        self.assertEqual((len(chart), repr(chart)), (5, "Chart(5 names)"))
        for given in [chart.names(), chart.looks(), chart.columns("b"), chart.look("z"), chart.look("z")[2],
                      chart.names()[2], chart.names()[2][1], chart.looks()[2], chart.looks()[2][3]]:
            self.assertIs(type(given), tuple)

    def test_lists_that_change_afterwards(self):
        parts = like_me()
        chart = Chart(**parts)
        before = copy.deepcopy(parts)
        self.assertEqual(parts, before)
        parts["names"][0][1].append(((4, 1), 20))
        parts["names"][2][1].pop()
        parts["names"].pop()
        parts["looks"][0][3].append(21)
        parts["looks"].clear()
        self.assertEqual(chart, Chart(**before))
        self.assertEqual(chart.columns("sign"), ((ZERO, 2), (ONE, 3)))
        self.assertEqual(chart.look("c"), (0, 0, (8,)))
        self.assertEqual(len(chart.columns("c")), 5)
        self.assertIsNone(chart.column("sign", (4, 1)))

    def test_arguments_stay_and_returned_lists_are_new(self):
        names = [("b", [(ONE, 5), (ZERO, 4)], 7), ("a", [], 0)]
        looks = [("b", 1, 2, [9, 8])]
        chart = Chart(1, 0, names, looks)
        self.assertEqual(names, [("b", [(ONE, 5), (ZERO, 4)], 7), ("a", [], 0)])
        self.assertEqual(looks, [("b", 1, 2, [9, 8])])
        chart.charted().append(7)
        chart.charted()[0] = None
        self.assertEqual(chart.charted(), [0, 1, 4, 5, 8, 9])

    def test_columns_by_value(self):
        chart = Chart(0, 1, [("a", [((-1, 2), 5), (ZERO, 2), (ONE, 7)], 0), ("sign", [((3, 1), 3)], 4)])
        self.assertEqual([chart.column("a", value) for value in [(-1, 2), ZERO, ONE, (3, 1)]],
                         [5, 2, 7, None])
        self.assertEqual(chart.column("sign", (3, 1)), 3)
        for value in any_values() + [(True, 1), (1, True), (False, 1), (True, True), [1, 1], "1", 1, (2, 2),
                                     (1, -2), (-2, 4), ("a",), {}, (10 ** 70, 1), (1, 1, 1), ((1, 1),)]:
            self.assertIsNone(chart.column("a", value))
            self.assertIsNone(chart.column("sign", value))

    def test_names_without_entry(self):
        chart = Chart(0, 1, [("a", [(ONE, 2)], 3), ("sign", [], 4), ("b", [], 5)], [("b", 0, 1, [3])])
        wrong = any_values() + ["c", "place", "A", "", "let", "a ", b"a", ("a",), ["a"], [("a", [], 3)]]
        for call in [chart.columns, chart.stage, lambda name: chart.column(name, ONE),
                     lambda name: chart.column(name, None), chart.look]:
            for name in wrong:
                with self.assertRaises(NoName) as caught:
                    call(name)
                self.assertEqual(caught.exception.name, name)
        for name in ["a", "sign"]:
            with self.assertRaises(NoName) as caught:
                chart.look(name)
            self.assertEqual(caught.exception.name, name)
        self.assertEqual(chart.look("b"), (0, 1, (3,)))

    def test_equal(self):
        chart = Chart(**like_me())
        self.assertTrue(chart == Chart(**like_me()))
        self.assertFalse(chart != Chart(**like_me()))
        names = like_me()["names"]
        for changed in [
            {"one": 14}, {"rest": 14}, {"one": 1, "rest": 0}, {"names": names[:2], "looks": []}, {"looks": []},
            {"names": names[:2] + [("c", names[2][1], 2)]}, {"names": names[:2] + [("c", names[2][1][:4], 1)]},
            {"names": names[:2] + [("c", names[2][1] + [((-1, 1), 14)], 1)]},
            {"names": names + [("d", [], 1)]}, {"names": names[:2] + [("d", names[2][1], 1)],
                                                "looks": [("d", 0, 0, [8])]},
            {"looks": [("c", 1, 0, [8])]}, {"looks": [("c", 0, 1, [8])]}, {"looks": [("c", 0, 0, [14])]},
            {"looks": [("c", 0, 0, [])]}, {"looks": [("c", 0, 0, [8, 14])]},
            {"looks": like_me()["looks"] + [("sign", 0, 0, [])]},
        ]:
            other = Chart(**{**like_me(), **changed})
            self.assertFalse(chart == other)
            self.assertTrue(chart != other)
        for other in any_values() + [like_me(), chart.names(), chart.text()]:
            self.assertFalse(chart == other)
            self.assertFalse(other == chart)
            self.assertTrue(chart != other)

    def test_counted(self):
        for seed in range(200):
            one, rest, names, looks = grown_chart(seed)
            chart = Chart(one, rest, names, looks)
            columns = [one, rest]
            for name, pairs, stage in names:
                due = sorted(((Fraction(*value), column) for value, column in pairs))
                self.assertEqual(chart.columns(name), tuple((pair(x), column) for x, column in due))
                self.assertEqual(chart.stage(name), stage)
                columns += [column for _, column in pairs]
            for name, stage, head, scratch in looks:
                self.assertEqual(chart.look(name), (stage, head, tuple(sorted(scratch))))
                columns += scratch
            self.assertEqual([entry[0] for entry in chart.names()], sorted(entry[0] for entry in names))
            self.assertEqual([look[0] for look in chart.looks()], sorted(look[0] for look in looks))
            self.assertEqual(chart.charted(), sorted(columns))


def grown_chart(seed):
    """The arguments of a chart that is grown by chance, in any order."""
    chance = random.Random(seed)
    free = chance.sample(range(2000), 60)
    known = ["sign", "place"] + [f"{chance.choice('abcxyz')}{at}" for at in range(9)]
    names, looks = [], []
    for name in chance.sample(known, chance.randint(0, 8)):
        values = {pair(Fraction(chance.randint(-99, 99), chance.randint(1, 20)))
                  for _ in range(chance.randint(0, 5))}
        some = [(value, free.pop()) for value in values]
        chance.shuffle(some)
        names.append((name, some, chance.randint(-1, 99)))
        if chance.random() < 0.4:
            scratch = [free.pop() for _ in range(chance.randint(0, 2))]
            looks.append((name, chance.randint(0, 99), chance.randint(0, 999), scratch))
    chance.shuffle(looks)
    return free.pop(), free.pop(), names, looks


class Wrong(unittest.TestCase):
    def bad(self, where, one, rest, names, *looks):
        """Asserts that a chart cannot be made, with the part that is told."""
        with self.assertRaises(BadChart) as caught:
            Chart(one, rest, names, *looks)
        self.assertEqual(caught.exception.where, where)

    def test_bounds(self):
        for column in [0, 1999]:
            other = 1999 - column
            Chart(column, other, [], [])
            self.assertEqual(Chart(5, 6, [("a", [(ONE, column)], 0)]).column("a", ONE), column)
            self.assertEqual(Chart(5, 6, [("a", [], 0)], [("a", 0, 0, [column])]).look("a"), (0, 0, (column,)))
        for stage in [-1, 0, 99]:
            self.assertEqual(Chart(0, 1, [("a", [], stage)]).stage("a"), stage)
        for stage, head in itertools.product([0, 99], [0, 999]):
            self.assertEqual(Chart(0, 1, [("a", [], 0)], [("a", stage, head, [])]).look("a"), (stage, head, ()))
        for value in [(99, 1), (-99, 1), (1, 9999), (197, 2), (-1, 9999)]:
            self.assertEqual(Chart(0, 1, [("a", [(value, 5)], 0)]).column("a", value), 5)

    def test_one_and_rest(self):
        for value in any_values() + NO_COLUMNS:
            if value in (0, 1, 7) and type(value) is int:
                continue
            self.bad("one", value, 1, [])
            self.bad("rest", 0, value, [])
            # All that is wrong behind it does not count.
            self.bad("one", value, value, value, value)
            self.bad("rest", 0, value, value, value)

    def test_names(self):
        for value in any_values() + ["a", {"a": []}, ("a", [], 0)]:
            if value not in ([], ()):
                self.bad("names", 0, 1, value)
                self.bad("names", 0, 1, value, value)
        right = ("b", [(ONE, 9)], 0)
        for entry in wrong_entries():
            for names in [[entry], (entry,), [right, entry], [entry, right]]:
                self.bad("names", 0, 1, names)
                self.bad("names", 0, 0, names, [("b", 0, 0, [9])])

    def test_names_twice(self):
        right = ("b", [(ONE, 9)], 0)
        for names in [[right, right], [right, ("b", [], 0)], [("sign", [], 0), right, ("sign", [], 1)],
                      [("b", [], 3), ("a", [], 3), ("b", [(ONE, 2)], -1)]]:
            self.bad("names", 0, 1, names)
        for given in ["sign", "place"]:
            self.assertEqual(Chart(0, 1, [(given, [], 5)]).stage(given), 5)

    def test_values_twice(self):
        for pairs in [[(ONE, 2), (ONE, 3)], [(ONE, 2), (HALF, 3), (ONE, 4)], [(ONE, 2), (ONE, 2)]]:
            self.bad("names", 0, 1, [("b", pairs, 0)])
        # The same values may stand in several entries.
        Chart(0, 1, [("b", [(ONE, 2)], 0), ("a", [(ONE, 3)], 0)])

    def test_looks(self):
        names = [("a", [(ONE, 9)], 0), ("b", [], 0), ("sign", [], 0)]
        for value in any_values() + ["a", {"a": []}, ("a", 0, 0, [])]:
            if value not in ([], ()):
                self.bad("looks", 0, 1, names, value)
        right = ("b", 0, 0, [8])
        for look in wrong_looks() + [("c", 0, 0, []), ("place", 0, 0, []), ("let", 0, 0, [])]:
            for looks in [[look], (look,), [right, look], [look, right]]:
                self.bad("looks", 0, 1, names, looks)
                self.bad("looks", 9, 9, names, looks)
        for looks in [[right, right], [right, ("a", 0, 0, []), ("b", 1, 1, [])]]:
            self.bad("looks", 0, 1, names, looks)
        self.bad("looks", 0, 1, [], [("a", 0, 0, [])])
        self.assertEqual(Chart(0, 1, names, [("sign", 1, 2, [3])]).look("sign"), (1, 2, (3,)))

    def test_columns(self):
        self.bad("columns", 0, 0, [])
        self.bad("columns", 1999, 1999, [], [])
        for column in [0, 1]:
            self.bad("columns", 0, 1, [("a", [(ONE, column)], 0)])
            self.bad("columns", 0, 1, [("a", [(ONE, 2), (ZERO, column)], 0)])
            self.bad("columns", 0, 1, [("a", [], 0)], [("a", 0, 0, [column])])
        for names, looks in [
            ([("a", [(ONE, 2), (ZERO, 2)], 0)], []), ([("a", [(ONE, 2)], 0), ("b", [(ONE, 2)], 0)], []),
            ([("a", [(ONE, 2)], 0)], [("a", 0, 0, [2])]), ([("a", [], 0)], [("a", 0, 0, [2, 2])]),
            ([("a", [], 0), ("b", [], 0)], [("a", 0, 0, [2]), ("b", 0, 0, [2])]),
            ([("a", [(ONE, 2)], 0), ("b", [], 0)], [("b", 0, 0, [3, 2])]),
        ]:
            self.bad("columns", 0, 1, names, looks)


if __name__ == "__main__":
    unittest.main()
