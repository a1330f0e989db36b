"""Points [2], [3] and [18], and the section lookingnets/nets.py of the interface; the texts of nets
are in test_net_texts.
"""

import copy
import inspect
import itertools
import random
import unittest
from fractions import Fraction

from lookingnets import nets
from lookingnets.errors import BadNet, TooMany
from lookingnets.nets import Net, normal_entries, normal_triples
from tests.kinds import any_values
from tests.netly import LIKE_ME, grown_net
from tests.plainly import pair, worth

ONE = (1, 1)
HALF = (1, 2)
METHODS = {
    "__init__": ["self", "signs", "n", "width", "rest", "sign_rows", "place_rows", "stages"],
    "rest_row": ["self"], "sign_rows": ["self"], "place_rows": ["self"], "stages": ["self"],
    "with_stages": ["self", "stages"], "text": ["self"], "read": ["text"],
}
# What is no fraction.
NO_FACTORS = [1, 0, None, True, "1", "1/2", (1,), (1, 0), (2, 2), (0, 2), (1, -1), [1, 1], (True, 1),
              (1, True), ((1, 1), 1), (1, 1, 1), ()]
# What is no column of a net of the width 5.
NO_COLUMNS = [-1, 5, 6, 2000, 10 ** 17, None, True, False, "0", (0,), (0, 1), [0], ()]


def wrong_entries():
    """Values that are no entries of a net of the width 5."""
    right = (0, ONE)
    wrong = [value for value in any_values() if not isinstance(value, (list, tuple))]
    wrong += [{0: ONE}, "0:1", right, [0, ONE], [right, [1, ONE]], [(1, ONE), 2], [()], [[]], [None]]
    for item in [(column, ONE) for column in NO_COLUMNS] + [(0, factor) for factor in NO_FACTORS] + [
            (0,), (0, 0, ONE), (ONE, 0), (0, ONE, ONE), ONE, "01", [4, ONE], (0, 0)]:
        wrong += [[item], (right, item), [item, right]]
    return wrong


def wrong_triples():
    """Values that are no scores or givings of a net of the width 5."""
    right = (0, 4, ONE)
    wrong = [value for value in any_values() if not isinstance(value, (list, tuple))]
    wrong += [right, list(right), [right, [0, 4, ONE]], [()], [None], "0,4:1", {}]
    for item in [(column, 0, ONE) for column in NO_COLUMNS] + [(0, column, ONE) for column in NO_COLUMNS] + [
            (0, 0, factor) for factor in NO_FACTORS] + [
            (0, ONE), (0, 0, 0, ONE), (0, 0), ((0, 0), ONE), [0, 0, ONE], (ONE, 0, 0), (0, 0, ONE, ONE)]:
        wrong += [[item], (right, item), [item, right]]
    return wrong


def wrong_stages():
    """Values that are no stages of a net of the width 5."""
    head, unit = ([(0, 4, ONE)], ()), ((), HALF, [(4, ONE)])
    wrong = any_values() + ["heads", "bend", ("heads",), ("bend",), ("heads", [], []), ("bend", (), ())]
    wrong += [["heads", []], ["bend", [unit]], ([], "heads"), ("head", []), ("bends", []), ("Heads", []),
              ("unit", []), (None, []), (("heads",), []), (["heads"], []), (0, []), ("", ()),
              ("heads ", []), ("heads", None), ("heads", 0), ("heads", "x"), ("heads", {}),
              ("bend", None), ("bend", True), ("bend", "unit"), ("heads", head), ("bend", unit)]
    wrong += [("heads", [head, part]) for part in [
        None, 0, "x", list(head), (head,), unit, (), ((),), ((), (), ()), ([], None), (None, [])]]
    wrong += [("heads", [(entries, [])]) for entries in wrong_triples()]
    wrong += [("heads", ((), ([], entries))) for entries in wrong_triples()]
    wrong += [("bend", [unit, part]) for part in [
        None, 0, "x", list(unit), (unit,), head, (), ((), ()), ((), HALF), ((), HALF, (), ()),
        ((), (), HALF), (HALF, (), ())]]
    wrong += [("bend", [((), shift, ())]) for shift in NO_FACTORS]
    wrong += [("bend", [(entries, HALF, [])]) for entries in wrong_entries()]
    wrong += [("bend", [((), HALF, ()), ((), HALF, entries)]) for entries in wrong_entries()]
    return wrong


def made(**changed):
    """A net of the width 5, with some arguments changed."""
    arguments = {"signs": 2, "n": 3, "width": 5, "rest": [], "sign_rows": [[], []],
                 "place_rows": [[], [], []], "stages": []}
    return Net(**{**arguments, **changed})


class Interface(unittest.TestCase):
    def test_functions(self):
        for name, parameter in [("normal_entries", "entries"), ("normal_triples", "triples")]:
            function = getattr(nets, name)
            self.assertTrue(inspect.isfunction(function))
            self.assertEqual(function.__module__, "lookingnets.nets")
            self.assertEqual(list(inspect.signature(function).parameters), [parameter])
        self.assertEqual(normal_entries(entries=[(1, ONE)]), ((1, ONE),))
        self.assertEqual(normal_triples(triples=[(1, 0, ONE)]), ((1, 0, ONE),))

    def test_methods(self):
        self.assertEqual(Net.__module__, "lookingnets.nets")
        for name, parameters in METHODS.items():
            self.assertIn(name, vars(Net))
            self.assertEqual(list(inspect.signature(getattr(Net, name)).parameters), parameters)
        for name in ["__eq__", "__str__", "__repr__"]:
            self.assertIn(name, vars(Net))
        self.assertIsInstance(vars(Net)["layers"], property)
        self.assertIsInstance(vars(Net)["read"], staticmethod)

    def test_keywords_and_defaults(self):
        net = Net(2, 1, 5, sign_rows=[[], []], place_rows=[[]])
        self.assertEqual((net.rest_row(), net.stages()), ((), ()))
        self.assertEqual(Net(place_rows=[[]], width=5, n=1, sign_rows=[[], []], signs=2), net)
        with self.assertRaises(TypeError):
            Net(2, 1, 5, [], [[], []], [[]], [])
        for left_out in ["sign_rows", "place_rows"]:
            arguments = {"sign_rows": [[], []], "place_rows": [[]]}
            arguments.pop(left_out)
            with self.assertRaises(TypeError):
                Net(2, 1, 5, **arguments)
        self.assertEqual(net.with_stages(stages=[("bend", [])]).stages(), (("bend", ()),))
        self.assertEqual(Net.read(text=net.text()), net)


class NormalForm(unittest.TestCase):
    def test_entries_written_out(self):
        for entries, due in [
            ([], ()), ((), ()), ([(3, HALF)], ((3, HALF),)),
            ([(3, HALF), (1, ONE)], ((1, ONE), (3, HALF))),
            ([(3, HALF), (1, ONE), (3, HALF)], ((1, ONE), (3, ONE))),
            ([(3, HALF), (3, (-1, 2))], ()), ([(3, (0, 1))], ()),
            ([(10, ONE), (9, ONE), (2, ONE), (10, (-1, 3))], ((2, ONE), (9, ONE), (10, (2, 3)))),
            ([(0, (0, 1)), (0, (5, 3)), (0, (1, 3)), (0, (-2, 1))], ()),
            ([(0, ONE), (0, (-1, 1)), (0, HALF)], ((0, HALF),)),
        ]:
            for some in [list(entries), tuple(entries)]:
                found = normal_entries(some)
                self.assertEqual(found, due)
                self.assertIs(type(found), tuple)

    def test_triples_written_out(self):
        for triples, due in [
            ([], ()), ((), ()), ([(1, 2, HALF)], ((1, 2, HALF),)),
            ([(1, 2, HALF), (2, 1, HALF), (1, 2, HALF)], ((1, 2, ONE), (2, 1, HALF))),
            ([(1, 2, HALF), (1, 2, (-1, 2))], ()), ([(1, 2, (0, 1))], ()),
            ([(2, 0, ONE), (1, 10, ONE), (1, 9, ONE), (0, 0, ONE)],
             ((0, 0, ONE), (1, 9, ONE), (1, 10, ONE), (2, 0, ONE))),
            ([(1, 1, ONE), (1, 1, ONE), (1, 0, ONE)], ((1, 0, ONE), (1, 1, (2, 1)))),
        ]:
            for some in [list(triples), tuple(triples)]:
                found = normal_triples(some)
                self.assertEqual(found, due)
                self.assertIs(type(found), tuple)
                self.assertTrue(all(type(item) is tuple for item in found))

    def test_counted(self):
        chance = random.Random(3)
        for _ in range(300):
            entries = [(chance.randrange(12), pair(Fraction(chance.randint(-3, 3), chance.randint(1, 3))))
                       for _ in range(chance.randint(0, 20))]
            triples = [(chance.randrange(3), column, factor) for column, factor in entries]
            self.assertEqual(normal_entries(entries), summed(entries))
            self.assertEqual(normal_triples(triples), summed(triples))

    def test_arguments_stay(self):
        entries = [(3, HALF), (1, ONE), (3, HALF)]
        normal_entries(entries)
        self.assertEqual(entries, [(3, HALF), (1, ONE), (3, HALF)])


def summed(items):
    """Entries or triples in normal form, counted in another way."""
    columns = sorted({item[:-1] for item in items})
    sums = [(column, sum(worth(item[-1]) for item in items if item[:-1] == column)) for column in columns]
    return tuple(column + (pair(x),) for column, x in sums if x != 0)


class Parts(unittest.TestCase):
    def test_attributes(self):
        net = Net.read(LIKE_ME)
        self.assertEqual((net.signs, net.n, net.width, net.layers), (2, 4, 14, 1))
        self.assertEqual(net.rest_row(), ((0, ONE), (1, ONE)))
        self.assertEqual(net.sign_rows(), (((0, ONE), (2, ONE)), ((0, ONE), (3, ONE))))
        self.assertEqual(net.place_rows(), (((4, ONE),), ((5, ONE),), ((6, ONE),), ((7, ONE),)))
        stages = net.stages()
        self.assertEqual(stages[0], (
            "heads", ((((0, 1, ONE), (2, 2, ONE), (3, 3, ONE)), ((8, 1, ONE),)),)))
        self.assertEqual(stages[1][0], "bend")
        self.assertEqual(len(stages[1][1]), 7)
        self.assertEqual(stages[1][1][1], (
            ((1, (-5, 1)), (8, ONE)), (-1, 5), ((12, (20, 1)), (13, (-21, 1)))))

    def test_in_normal_form_and_tuples_throughout(self):
        for seed in range(100):
            parts = grown_net(seed)
            net = Net(**parts)
            self.assertEqual(net.rest_row(), summed(parts["rest"]))
            self.assertEqual(net.sign_rows(), tuple(summed(row) for row in parts["sign_rows"]))
            self.assertEqual(net.place_rows(), tuple(summed(row) for row in parts["place_rows"]))
            due = []
            for kind, several in parts["stages"]:
                if kind == "heads":
                    due.append((kind, tuple((summed(a), summed(b)) for a, b in several)))
                else:
                    due.append((kind, tuple((summed(a), shift, summed(b)) for a, shift, b in several)))
            self.assertEqual(net.stages(), tuple(due))
            self.assertEqual(net.layers, [kind for kind, _ in due].count("heads"))
            self.assert_tuples([net.rest_row(), net.sign_rows(), net.place_rows(), net.stages()])

    def assert_tuples(self, several):
        """Asserts that no list stands within some values."""
        for value in several:
            self.assertIs(type(value), tuple)
            self.assert_tuples([part for part in value if not isinstance(part, (int, str))])

    def test_parts_without_items_stay_in_their_order(self):
        stages = [("bend", []), ("heads", []), ("heads", [((), ()), ([(0, 0, (0, 1))], [])]),
                  ("bend", [((), (0, 1), ()), ([(1, ONE), (1, (-1, 1))], HALF, ())]), ("bend", ())]
        net = made(stages=stages)
        self.assertEqual(net.stages(), (
            ("bend", ()), ("heads", ()), ("heads", (((), ()), ((), ()))),
            ("bend", (((), (0, 1), ()), ((), HALF, ()))), ("bend", ())))
        self.assertEqual(net.layers, 2)
        several = [([(0, at, ONE)], [(at, 0, ONE)]) for at in (3, 1, 4, 2)]
        found = made(stages=[("heads", several)]).stages()[0][1]
        self.assertEqual([scores[0][1] for scores, _ in found], [3, 1, 4, 2])

    def test_lists_are_copied(self):
        for seed in range(40):
            parts = grown_net(seed)
            kept = copy.deepcopy(parts)
            net = Net(**parts)
            text = net.text()
            stages = copy.deepcopy(parts["stages"])
            other = net.with_stages(stages)
            self.assertEqual(parts, kept)
            for several in [parts["rest"], *parts["sign_rows"], *parts["place_rows"]]:
                several.append((0, ONE))
            for kind, several in parts["stages"] + stages:
                for part in several:
                    part[0].append(None)
                    part[-1].clear()
                several.append(None)
            parts["sign_rows"].append([]), parts["place_rows"].clear(), parts["stages"].clear()
            stages.clear()
            self.assertEqual(net.text(), text)
            self.assertEqual(other.text(), text)

    def test_equal(self):
        parts = {"signs": 2, "n": 2, "width": 4, "rest": [(0, ONE)], "sign_rows": [[], [(1, ONE)]],
                 "place_rows": [[(2, ONE)], []], "stages": [("bend", [((), ONE, [(3, ONE)])])]}
        net = Net(**parts)
        same = {**parts, "rest": ((0, HALF), (0, HALF), (3, (0, 1))), "sign_rows": ([], ((1, ONE),)),
                "stages": (("bend", (([], ONE, ((3, ONE),)),)),)}
        self.assertTrue(net == Net(**same))
        self.assertFalse(net != Net(**same))
        for changed in [
            {"signs": 3, "sign_rows": [[], [(1, ONE)], []]}, {"n": 1, "place_rows": [[(2, ONE)]]},
            {"width": 5}, {"rest": []}, {"rest": [(0, HALF)]}, {"sign_rows": [[(1, ONE)], []]},
            {"place_rows": [[], []]}, {"stages": []}, {"stages": parts["stages"] * 2},
            {"stages": [("bend", [((), HALF, [(3, ONE)])])]}, {"stages": [("heads", [])]},
        ]:
            self.assertFalse(net == Net(**{**parts, **changed}), changed)
            self.assertTrue(net != Net(**{**parts, **changed}))
        for other in any_values() + [net.text(), net.stages()]:
            self.assertFalse(net == other)
            self.assertTrue(net != other)

    def test_repr(self):
        self.assertEqual(repr(Net.read(LIKE_ME)), "Net(14 columns, 2 stages)")
        self.assertEqual(repr(made(width=5)), "Net(5 columns, 0 stages)")
        net = Net(2, 1, 1, sign_rows=[[], []], place_rows=[[]], stages=[("bend", [])])
        self.assertEqual(repr(net), "Net(1 columns, 1 stages)")

    def test_with_stages(self):
        net = Net.read(LIKE_ME)
        stages = net.stages()
        turned = net.with_stages(stages[::-1])
        self.assertEqual(turned.stages(), stages[::-1])
        self.assertEqual((turned.rest_row(), turned.sign_rows(), turned.place_rows()),
                         (net.rest_row(), net.sign_rows(), net.place_rows()))
        self.assertEqual((turned.signs, turned.n, turned.width), (2, 4, 14))
        self.assertEqual(net.stages(), stages)
        self.assertEqual(turned.with_stages(list(stages)), net)
        self.assertEqual(net.with_stages([]).stages(), ())
        self.assertEqual(len(net.with_stages([("heads", [])] * 100).stages()), 100)
        self.assertIs(type(turned), Net)


class Bounds(unittest.TestCase):
    def test_sizes(self):
        for signs, n, width in itertools.product(range(2, 6), range(1, 9), (1, 2, 1999, 2000)):
            net = Net(signs, n, width, sign_rows=[[]] * signs, place_rows=[()] * n)
            self.assertEqual((net.signs, net.n, net.width), (signs, n, width))
            self.assertEqual((net.sign_rows(), net.place_rows()), (((),) * signs, ((),) * n))

    def test_columns(self):
        for column in range(5):
            net = made(rest=[(column, ONE)], sign_rows=[[(column, ONE)], []],
                       place_rows=[[], [], [(column, ONE)]],
                       stages=[("heads", [([(column, 0, ONE), (0, column, ONE)], [(4, column, ONE)])]),
                               ("bend", [([(column, ONE)], ONE, [(column, ONE)])])])
            self.assertEqual(net.rest_row(), ((column, ONE),))

    def test_numbers_of_any_size_in_fractions(self):
        large = (10 ** 18 - 1, 10 ** 17)
        net = made(rest=[(0, large), (1, (-10 ** 100, 7))])
        self.assertEqual(net.rest_row(), ((0, large), (1, (-10 ** 100, 7))))

    def test_stages(self):
        for many in [0, 1, 99, 100]:
            self.assertEqual(len(made(stages=[("bend", [])] * many).stages()), many)


class Errors(unittest.TestCase):
    def raises(self, where, call, *arguments, **named):
        """Asserts that a call raises BadNet, or TooMany for a pair."""
        kind = TooMany if isinstance(where, tuple) else BadNet
        with self.assertRaises(kind) as caught:
            call(*arguments, **named)
        error = caught.exception
        self.assertIs(type(error), kind)
        self.assertEqual((error.what, error.count) if kind is TooMany else error.where, where)

    def test_size(self):
        for wrong in any_values() + ["2", (2, 1), 2 ** 70, -2, 9]:
            self.raises("size", made, signs=wrong)
            if isinstance(wrong, bool) or wrong not in (1, 7):
                self.raises("size", made, n=wrong)
            if isinstance(wrong, bool) or not isinstance(wrong, int) or wrong < 1:
                self.raises("size", made, width=wrong)
        for signs in [0, 1, 6, 7]:
            self.raises("size", made, signs=signs, sign_rows=[[]] * signs)
        for n in [0, 9, 10]:
            self.raises("size", made, n=n, place_rows=[[]] * n)
        for width in [0, -1, -2000]:
            self.raises("size", made, width=width)

    def test_width(self):
        for width in [2001, 2002, 10 ** 17, 10 ** 30]:
            self.raises(("width", width), made, width=width)

    def test_rest(self):
        for wrong in wrong_entries():
            self.raises("rest", made, rest=wrong)

    def test_signs(self):
        for wrong in any_values() + [[[]], [[]] * 3, ((),), "xy", {0: [], 1: []}, [None, []], [[], 0]]:
            if wrong != ([], []):
                self.raises("signs", made, sign_rows=wrong)
        for wrong in wrong_entries():
            self.raises("signs", made, sign_rows=[wrong, []])
            self.raises("signs", made, sign_rows=([], wrong))

    def test_places(self):
        for wrong in any_values() + [[[]] * 2, [[]] * 4, ((),), "xyz", [[], None, []], [[], [], 0]]:
            self.raises("places", made, place_rows=wrong)
        for wrong in wrong_entries():
            self.raises("places", made, place_rows=[wrong, [], []])
            self.raises("places", made, place_rows=([], [], wrong))

    def test_stages(self):
        net = made()
        for wrong in any_values() + ["bend", {}, {"bend": []}, b"", net]:
            if not isinstance(wrong, (list, tuple)):
                self.raises("stages", made, stages=wrong)
                self.raises("stages", net.with_stages, wrong)

    def test_too_many_stages(self):
        net = made()
        for many in [101, 102, 1000]:
            for stage in [("bend", []), ("heads", ()), None, ("heads", None)]:
                self.raises(("stages", many), made, stages=[stage] * many)
                self.raises(("stages", many), net.with_stages, (stage,) * many)

    def test_the_first_item_that_is_no_stage(self):
        net = made()
        right = ("bend", [])
        for wrong in wrong_stages():
            self.raises(0, made, stages=[wrong])
            self.raises(2, made, stages=(right, ("heads", ()), wrong, right, wrong))
            self.raises(1, net.with_stages, [right, wrong, None])
        self.raises(99, made, stages=[right] * 99 + [None])
        # The width of the net counts.
        stage = ("bend", [([(13, ONE)], ONE, [])])
        self.assertEqual(len(Net.read(LIKE_ME).with_stages([stage]).stages()), 1)
        self.raises(0, Net.read(LIKE_ME).with_stages, [("bend", [([(14, ONE)], ONE, [])])])

    def test_several_at_once(self):
        wrong = [
            ("size", {"signs": 1}), ("size", {"n": 9}), (("width", 2001), {"width": 2001}),
            ("rest", {"rest": [(2001, ONE)]}), ("signs", {"sign_rows": [[]]}),
            ("places", {"place_rows": None}), ("stages", {"stages": 0}),
        ]
        last = [(("stages", 101), {"stages": [None] * 101}), (0, {"stages": [None]})]
        for (where, first), (_, second) in itertools.combinations(wrong, 2):
            self.raises(where, made, **{**second, **first})
        for (where, first), (_, second) in itertools.product(wrong[:-1], last):
            self.raises(where, made, **{**second, **first})
        everything = {}
        for where, changed in reversed(wrong + last[:1]):
            everything = {**everything, **changed}
            self.raises(where, made, **everything)
        self.raises("size", made, width=0, rest=None, sign_rows=None, place_rows=None, stages=None)

    def test_a_call_that_raises_changes_nothing(self):
        net = Net.read(LIKE_ME)
        for wrong in [None, [None], [("bend", [])] * 101]:
            with self.assertRaises((BadNet, TooMany)):
                net.with_stages(wrong)
        self.assertEqual(net.text(), LIKE_ME)


if __name__ == "__main__":
    unittest.main()
