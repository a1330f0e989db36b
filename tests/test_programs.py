"""Points [2], [9], [11], [13] to [15], and the class Program of the interface; the lines that
cannot stand are in test_program_faults, and the changed programs in test_changed_programs.
"""

import copy
import inspect
import unittest

from lookingnets import programs
from lookingnets.errors import NoName
from lookingnets.programs import Program, is_laying, least_laying, longest_chain
from tests import plainly
from tests.growing import grown
from tests.kinds import any_values

METHODS = {
    "__init__": ["self", "signs", "n", "lines", "told"], "lines": ["self"], "names": ["self"],
    "line_of": ["self", "name"], "range_of": ["self", "name"], "depth": ["self", "name"],
    "hangs_on": ["self", "name"], "needed": ["self"], "pruned": ["self"],
    "shortened": ["self", "n"], "then": ["self", "other"], "text": ["self"], "read": ["text"],
    "__call__": ["self", "text"],
}
TURNED = """program 2 4
let t be 1
let len count where t = t
let b be - - len 1 place
let r first sign where place = b else 0
tell r
"""
# Looks that hang on each other and looks that do not, with lines between them.
MANY = """program 3 4
let a be + sign 1
let b table a place : 0 1 2 0 1 2 0 1 2 0 1 2
let c count where a = b
let d last c where place < sign else -1
let e be + c + d 1
let f be * 2 e
let g mean sign where sign = sign else 0
let h first g where f > c else 2
let i table : 1/2
let j be + i e
let k last place where place = place else 0
tell h
"""


def whole(*numbers):
    """The tuple of whole fractions."""
    return tuple((number, 1) for number in numbers)


class Interface(unittest.TestCase):
    def test_functions(self):
        for name, parameters in [("longest_chain", ["program"]), ("least_laying", ["program"]),
                                 ("is_laying", ["program", "value"])]:
            function = getattr(programs, name)
            self.assertTrue(inspect.isfunction(function))
            self.assertEqual(function.__module__, "lookingnets.programs")
            self.assertEqual(list(inspect.signature(function).parameters), parameters)

    def test_methods(self):
        self.assertEqual(Program.__module__, "lookingnets.programs")
        for name, parameters in METHODS.items():
            self.assertIn(name, vars(Program))
            self.assertEqual(list(inspect.signature(getattr(Program, name)).parameters), parameters)
        for name in ["__eq__", "__len__", "__str__", "__repr__", "__bool__"]:
            self.assertIn(name, vars(Program))
        self.assertIsInstance(vars(Program)["layers"], property)
        self.assertIsInstance(vars(Program)["read"], staticmethod)

    def test_parameters_by_name(self):
        program = Program(told="x", lines=[("be", "x", ("1",))], n=4, signs=2)
        self.assertEqual(program.line_of(name="x"), ("be", "x", ("1",)))
        self.assertEqual(program.range_of(name="x"), whole(1))
        self.assertEqual(program.depth(name="x"), (0, 1))
        self.assertEqual(program.hangs_on(name="x"), [])
        self.assertEqual(program.shortened(n=2).n, 2)
        self.assertEqual(len(program.then(other=program)), 2)
        self.assertEqual(Program.read(text=program.text()), program)
        self.assertEqual(program(text=[0]), whole(1))
        self.assertEqual(longest_chain(program=program), [])
        self.assertEqual(least_laying(program=program), {})
        self.assertIs(is_laying(value={}, program=program), True)


class Parts(unittest.TestCase):
    def test_attributes(self):
        program = Program.read(TURNED)
        self.assertEqual((program.signs, program.n, program.told), (2, 4, "r"))
        self.assertEqual(Program.MOST, 12)
        self.assertEqual(program.MOST, 12)

    def test_lines_and_names(self):
        program = Program.read(TURNED)
        lines = [
            ("be", "t", ("1",)), ("count", "len", "t", "=", "t"),
            ("be", "b", ("-", "-", "len", "1", "place")),
            ("first", "r", "sign", "place", "=", "b", 0),
        ]
        self.assertEqual(program.lines(), lines)
        self.assertIs(type(program.lines()), list)
        self.assertEqual(program.names(), ["t", "len", "b", "r"])
        self.assertIs(type(program.names()), list)
        for line in lines:
            self.assertEqual(program.line_of(line[1]), line)
        empty = Program(2, 4, (), "place")
        self.assertEqual((empty.lines(), empty.names()), ([], []))

    def test_ranges(self):
        program = Program.read(TURNED)
        for name, due in [
            ("sign", whole(0, 1)), ("place", whole(0, 1, 2, 3)), ("t", whole(1)),
            ("len", whole(0, 1, 2, 3, 4)), ("b", whole(-4, -3, -2, -1, 0, 1, 2, 3)),
            ("r", whole(0, 1)),
        ]:
            self.assertEqual(program.range_of(name), due)
            self.assertIs(type(program.range_of(name)), tuple)

    def test_no_name(self):
        program = Program.read(TURNED)
        for value in any_values() + ["x", "R", "r ", "let", "be", "", ("r",), ["r"], program]:
            for method in [program.line_of, program.range_of, program.depth, program.hangs_on]:
                with self.assertRaises(NoName) as caught:
                    method(value)
                self.assertIs(caught.exception.name, value)
        for given in ["sign", "place"]:
            with self.assertRaises(NoName) as caught:
                program.line_of(given)
            self.assertEqual(caught.exception.name, given)
            self.assertEqual(program.depth(given), (0, 0))
            self.assertEqual(program.hangs_on(given), [])

    def test_len_truth_and_repr(self):
        for many in range(13):
            program = Program(2, 4, [("be", f"a{at}", ("1",)) for at in range(many)], "sign")
            self.assertEqual(len(program), many)
            self.assertIs(bool(program), True)
            self.assertEqual(repr(program), f"Program({many} lines)")

    def test_text_and_str(self):
        for text in [TURNED, MANY, "program 2 1\ntell sign\n", "program 5 8\ntell place\n",
                     "program 2 2\nlet x table : 1/2\ntell sign\n"]:
            program = Program.read(text)
            self.assertEqual(program.text(), text)
            self.assertEqual(str(program), text)

    def test_equal(self):
        lines = [("be", "a", ("1",)), ("be", "b", ("sign",))]
        program = Program(2, 4, lines, "a")
        self.assertTrue(program == Program(2, 4, tuple(lines), "a"))
        self.assertFalse(program != Program(2, 4, lines, "a"))
        for other in [
            Program(3, 4, lines, "a"), Program(2, 3, lines, "a"), Program(2, 4, lines, "b"),
            Program(2, 4, lines[:1], "a"), Program(2, 4, lines[::-1], "a"),
            Program(2, 4, lines + [("be", "c", ("1",))], "a"), Program(2, 4, [], "sign"),
            Program(2, 4, [lines[0], ("be", "b", ("place",))], "a"),
        ]:
            self.assertFalse(program == other)
            self.assertTrue(program != other)
        for other in any_values() + [program.text(), program.lines(), lines]:
            self.assertFalse(program == other)
            self.assertTrue(program != other)

    def test_lists_are_copied(self):
        lines = [("be", "a", ("1",)), ("count", "b", "a", "=", "sign")]
        program = Program(2, 4, lines, "b")
        kept = copy.deepcopy(lines)
        lines.append(("be", "c", ("1",)))
        lines[0] = None
        self.assertEqual(program.lines(), kept)
        for method in [program.lines, program.names, program.needed,
                       lambda: program.hangs_on("b"), lambda: longest_chain(program)]:
            due = list(method())
            self.assertIsNot(method(), method())
            method().append("x")
            method().clear()
            self.assertEqual(method(), due)
        laying = least_laying(program)
        laying["b"] = 7
        laying["x"] = 1
        self.assertEqual(least_laying(program), {"b": 1})
        self.assertEqual(program.text(),
                         "program 2 4\nlet a be 1\nlet b count where a = sign\ntell b\n")
        self.assertEqual(program([1, 1, 0, 1]), whole(4, 4, 0, 4))

    def test_arguments_stay(self):
        lines = [("be", "a", ("1",))]
        text = [0, 1, 1]
        program = Program(2, 4, lines, "a")
        program(text), program.pruned(), program.shortened(2), program.then(program)
        self.assertEqual((lines, text), ([("be", "a", ("1",))], [0, 1, 1]))
        self.assertEqual(program.text(), "program 2 4\nlet a be 1\ntell a\n")


class Hanging(unittest.TestCase):
    def test_hangs_on(self):
        program = Program.read(TURNED)
        for name, due in [("t", []), ("len", ["t"]), ("b", ["len", "place", "t"]),
                          ("r", ["b", "len", "place", "sign", "t"])]:
            self.assertEqual(program.hangs_on(name), due)
        program = Program.read(MANY)
        for name, due in [
            ("a", ["sign"]), ("b", ["a", "place", "sign"]), ("c", ["a", "b", "place", "sign"]),
            ("d", ["a", "b", "c", "place", "sign"]), ("g", ["sign"]), ("i", []), ("k", ["place"]),
            ("h", ["a", "b", "c", "d", "e", "f", "g", "place", "sign"]),
        ]:
            self.assertEqual(program.hangs_on(name), due)
            self.assertIs(type(program.hangs_on(name)), list)

    def test_needed(self):
        self.assertEqual(Program.read(TURNED).needed(), ["t", "len", "b", "r"])
        for told, due in [
            ("h", ["a", "b", "c", "d", "e", "f", "g", "h"]), ("j", ["a", "b", "c", "d", "e", "i", "j"]),
            ("g", ["g"]), ("k", ["k"]), ("sign", []), ("place", []), ("c", ["a", "b", "c"]),
            ("i", ["i"]), ("b", ["a", "b"]),
        ]:
            program = Program.read(MANY.replace("tell h", f"tell {told}"))
            self.assertEqual(program.needed(), due)

    def test_depths(self):
        program = Program.read(TURNED)
        self.assertEqual([program.depth(name) for name in program.names()], [
            (0, 1), (1, 1), (1, 2), (2, 1)])
        self.assertEqual(program.layers, 2)
        program = Program.read(MANY)
        for name, due in [
            ("a", (0, 1)), ("b", (0, 2)), ("c", (1, 1)), ("d", (2, 1)), ("e", (2, 2)), ("f", (2, 3)),
            ("g", (1, 1)), ("h", (3, 1)), ("i", (0, 1)), ("j", (2, 3)), ("k", (1, 1)),
        ]:
            self.assertEqual(program.depth(name), due, name)
        self.assertEqual(program.layers, 3)

    def test_steps_of_names_with_a_lesser_layer_do_not_count(self):
        program = Program.read("program 2 2\nlet a be 1\nlet b be a\nlet c be b\n"
                               "let d count where sign = sign\nlet e be + c d\ntell e\n")
        self.assertEqual(program.depth("c"), (0, 3))
        self.assertEqual(program.depth("e"), (1, 2))

    def test_layers(self):
        self.assertEqual(Program(2, 4, [], "sign").layers, 0)
        self.assertEqual(Program(2, 4, [("be", "a", ("1",))], "sign").layers, 0)
        # The layers do not hang on the told name.
        for told in ["sign", "a", "k", "h"]:
            self.assertEqual(Program.read(MANY.replace("tell h", f"tell {told}")).layers, 3)

    def test_depths_counted(self):
        for seed in range(150):
            lines, told = grown(seed, 2 + seed % 3, 1 + seed % 6, seed % 13)
            program = Program(2 + seed % 3, 1 + seed % 6, lines, told)
            for name in ["sign", "place"] + program.names():
                self.assertEqual(program.depth(name), (plainly.layer(name, lines), plainly.step(name, lines)))
                self.assertEqual(program.hangs_on(name), sorted(plainly.behind(name, lines)))
            layers = max([plainly.layer(name, lines) for name in program.names()], default=0)
            self.assertEqual(program.layers, layers)


class Layings(unittest.TestCase):
    def test_least_laying(self):
        self.assertEqual(least_laying(Program.read(TURNED)), {"len": 1, "r": 2})
        laying = least_laying(Program.read(MANY))
        self.assertEqual(laying, {"c": 1, "d": 2, "g": 1, "h": 3, "k": 1})
        self.assertEqual(list(laying), ["c", "d", "g", "h", "k"])
        self.assertEqual(least_laying(Program(2, 4, [("be", "a", ("1",))], "a")), {})

    def test_is_laying(self):
        program = Program.read(MANY)
        right = {"c": 1, "d": 2, "g": 1, "h": 3, "k": 1}
        for changed in [{}, {"k": 9}, {"g": 2}, {"h": 4}, {"c": 1, "d": 5, "h": 6}, {"h": 10 ** 30},
                        {"c": 7, "d": 8, "g": 8, "h": 9, "k": 100}]:
            self.assertIs(is_laying(program, {**right, **changed}), True, changed)
            self.assertIs(is_laying(program, dict(reversed({**right, **changed}.items()))), True)
        for changed in [
            {"c": 0}, {"c": -1}, {"k": 0}, {"c": 2}, {"d": 1}, {"d": 3}, {"h": 2}, {"g": 3}, {"h": 1},
            {"c": True}, {"k": True}, {"k": False}, {"k": None}, {"k": "1"}, {"k": (1, 1)}, {"k": [1]},
            {"a": 1}, {"sign": 1}, {"x": 1}, {1: 1}, {None: 1}, {("k",): 1}, {"i": 4}, {"": 1},
            {len: 1}, {"k": program}, {b"k": 1},
        ]:
            self.assertIs(is_laying(program, {**right, **changed}), False, changed)
        for name in right:
            self.assertIs(is_laying(program, {key: right[key] for key in right if key != name}), False)
        self.assertIs(is_laying(program, {**{key: right[key] for key in "cdgh"}, "i": 1}), False)
        self.assertIs(is_laying(program, {**{key: right[key] for key in "cdgh"}, 5: 1}), False)
        self.assertIs(is_laying(program, {}), False)

    def test_without_looks(self):
        program = Program(2, 4, [("be", "a", ("1",))], "a")
        self.assertIs(is_laying(program, {}), True)
        for wrong in [{"a": 1}, {"sign": 1}, {1: 1}, {None: None}]:
            self.assertIs(is_laying(program, wrong), False)

    def test_any_value_that_is_no_dict(self):
        for program in [Program.read(MANY), Program(2, 4, [], "sign")]:
            for value in any_values() + [[("c", 1)], ["c", "d"], "cdghk", program, longest_chain]:
                self.assertIs(is_laying(program, value), False)

    def test_longest_chain(self):
        self.assertEqual(longest_chain(Program.read(TURNED)), ["len", "r"])
        self.assertEqual(longest_chain(Program.read(MANY)), ["c", "d", "h"])
        self.assertEqual(longest_chain(Program(2, 4, [("be", "a", ("1",))], "a")), [])
        self.assertEqual(longest_chain(Program(2, 4, [], "sign")), [])

    def test_facts_counted(self):
        for seed in range(150):
            lines, told = grown(seed, 2, 1 + seed % 6, seed % 13)
            program = Program(2, 1 + seed % 6, lines, told)
            looks = [line[1] for line in lines if line[0] not in ("be", "table")]
            chain = longest_chain(program)
            self.assertIs(type(chain), list)
            self.assertEqual(len(chain), max([plainly.layer(name, lines) for name in looks], default=0))
            self.assertTrue(set(chain) <= set(looks))
            for ahead, name in zip(chain, chain[1:]):
                self.assertIn(ahead, plainly.behind(name, lines))
            laying = least_laying(program)
            self.assertEqual(laying, {name: plainly.layer(name, lines) for name in looks})
            self.assertIs(is_laying(program, laying), True)
            # No look may have the number of one on which it hangs, and none a number below 1.
            for name in looks:
                below = [laying[other] for other in plainly.behind(name, lines) if other in looks]
                self.assertIs(is_laying(program, {**laying, name: max(below, default=0)}), False)


if __name__ == "__main__":
    unittest.main()
