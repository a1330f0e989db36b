"""Points [5], [10], [37] for next_sign, [39], and the section lookingnets/plain.py."""

import inspect
import itertools
import unittest
from fractions import Fraction

from lookingnets import plain
from lookingnets.errors import BadValue, NoName, NoText, TooLong
from lookingnets.plain import found_places, next_sign, plain_values
from lookingnets.programs import Program
from tests import growing, plainly
from tests.kinds import any_values
from tests.plainly import pairs

RELATIONS = ["=", "/=", "<", "<=", ">", ">="]


def whole(*numbers):
    """The tuple of whole fractions."""
    return tuple((number, 1) for number in numbers)


def read(signs, n, *rows):
    """The program with some rows behind the first one."""
    return Program.read("".join(f"{row}\n" for row in (f"program {signs} {n}",) + rows))


LIKE_ME = read(2, 4, "let c count where sign = sign", "tell c")
TURNED = read(2, 4, "let t be 1", "let len count where t = t", "let b be - - len 1 place",
              "let r first sign where place = b else 0", "tell r")
A_MEAN = read(2, 4, "let m mean sign where place <= place else 0", "tell m")


class Interface(unittest.TestCase):
    def test_names_and_parameters(self):
        for name, parameters in [
            ("plain_values", ["program", "text"]), ("next_sign", ["program", "text"]),
            ("found_places", ["program", "name", "text", "at"]),
        ]:
            function = getattr(plain, name)
            self.assertTrue(inspect.isfunction(function), name)
            self.assertEqual(function.__module__, "lookingnets.plain")
            self.assertEqual(list(inspect.signature(function).parameters), parameters)

    def test_parameters_by_name(self):
        self.assertEqual(plain_values(text=[1], program=LIKE_ME)["c"], whole(1))
        self.assertEqual(found_places(at=0, text=[1], name="c", program=LIKE_ME), [0])
        self.assertEqual(next_sign(text=[1], program=LIKE_ME), 1)


class Examples(unittest.TestCase):
    def test_how_many_are_like_me(self):
        for text in [[0, 1, 0], (0, 1, 0)]:
            self.assertEqual(LIKE_ME(text), whole(2, 1, 2))
            self.assertEqual(plain_values(LIKE_ME, text), {
                "sign": whole(0, 1, 0), "place": whole(0, 1, 2), "c": whole(2, 1, 2)})
            self.assertEqual(list(plain_values(LIKE_ME, text)), ["sign", "place", "c"])
            self.assertEqual([found_places(LIKE_ME, "c", text, at) for at in range(3)],
                             [[0, 2], [1], [0, 2]])

    def test_turned_about(self):
        for text in [[0, 0, 1], (0, 0, 1)]:
            self.assertEqual(TURNED(text), whole(1, 0, 0))
            self.assertEqual(plain_values(TURNED, text), {
                "sign": whole(0, 0, 1), "place": whole(0, 1, 2), "t": whole(1, 1, 1),
                "len": whole(3, 3, 3), "b": whole(2, 1, 0), "r": whole(1, 0, 0)})
            self.assertEqual(list(plain_values(TURNED, text)),
                             ["sign", "place", "t", "len", "b", "r"])
            self.assertEqual([found_places(TURNED, "r", text, at) for at in range(3)],
                             [[2], [1], [0]])
        for text in plainly.texts(2, 4):
            self.assertEqual(TURNED(text), whole(*text[::-1]))

    def test_a_mean(self):
        self.assertEqual(A_MEAN((1, 0, 0, 1)), ((1, 1), (1, 2), (1, 3), (1, 2)))
        for text in plainly.texts(2, 4):
            self.assertEqual(A_MEAN(text), pairs(
                Fraction(sum(text[:at + 1]), at + 1) for at in range(len(text))))


class Meaning(unittest.TestCase):
    def test_each_look_with_each_relation(self):
        # The places with K's value in the relation to Q's are asked one by one.
        signs = {"=": lambda a, b: a == b, "/=": lambda a, b: a != b, "<": lambda a, b: a < b,
                 "<=": lambda a, b: a <= b, ">": lambda a, b: a > b, ">=": lambda a, b: a >= b}
        taken = {"first": lambda seen: seen[0], "last": lambda seen: seen[-1],
                 "mean": lambda seen: Fraction(sum(seen), len(seen))}
        keys = {"sign": lambda text, at: text[at], "place": lambda text, at: at}
        for relation, k, q in itertools.product(RELATIONS, keys, keys):
            rows = [f"let x{at} {kind} place where {k} {relation} {q} else -7"
                    for at, kind in enumerate(taken)]
            program = read(3, 4, *rows, f"let n count where {k} {relation} {q}", "tell n")
            for text in plainly.texts(3, 4)[::5]:
                for some in [text, list(text)]:
                    values = plain_values(program, some)
                    for at in range(len(text)):
                        found = [u for u in range(len(text))
                                 if signs[relation](keys[k](text, u), keys[q](text, at))]
                        for name in ["x0", "x1", "x2", "n"]:
                            self.assertEqual(found_places(program, name, some, at), found)
                        self.assertEqual(values["n"][at], (len(found), 1))
                        for index, kind in enumerate(taken):
                            due = Fraction(taken[kind](found)) if found else Fraction(-7)
                            self.assertEqual(values[f"x{index}"][at], plainly.pair(due))

    def test_pairs(self):
        program = read(2, 3, "let a table sign place : 0 1/2 2 1/2 2 0",
                       "let f first place where a pairs sign 0:1 1/2:0 2:0 else -1",
                       "let l last place where a pairs sign 0:1 1/2:0 2:0 else -1",
                       "let m mean sign where a pairs sign 0:1 1/2:0 2:0 else -1",
                       "let c count where a pairs sign 0:1 1/2:0 2:0",
                       "let n count where a pairs sign", "tell f")
        # a is 0, 2, 2 here; the sign 0 finds the last two places, the sign 1 the first one.
        values = plain_values(program, [0, 1, 0])
        self.assertEqual(values["a"], whole(0, 2, 2))
        self.assertEqual(values["f"], whole(1, 0, 1))
        self.assertEqual(values["l"], whole(2, 0, 2))
        self.assertEqual(values["m"], ((1, 2), (0, 1), (1, 2)))
        self.assertEqual(values["c"], whole(2, 1, 2))
        self.assertEqual(values["n"], whole(0, 0, 0))
        for name, due in [("f", [[1, 2], [0], [1, 2]]), ("c", [[1, 2], [0], [1, 2]]),
                          ("n", [[], [], []])]:
            self.assertEqual([found_places(program, name, (0, 1, 0), at) for at in range(3)], due)
        # a is 1/2 at both places: nothing is found from the sign 1.
        values = plain_values(program, [1])
        self.assertEqual((values["f"], values["m"], values["c"]), (whole(-1), whole(-1), whole(0)))

    def test_itself_and_those_behind_are_asked(self):
        program = read(2, 5, "let l last place where sign /= sign else -1",
                       "let f first place where place >= place else -1", "tell l")
        self.assertEqual(program([0, 1, 0, 0, 1]), whole(4, 3, 4, 4, 3))
        self.assertEqual(program([0, 0]), whole(-1, -1))
        self.assertEqual(plain_values(program, [0, 1, 0])["f"], whole(0, 1, 2))

    def test_the_rows_of_a_table(self):
        # The last name changes fastest.
        program = read(2, 3, "let t table sign place : 10 11 12 20 21 22",
                       "let u table place sign : 10 20 11 21 12 22", "let w table : 1/2", "tell t")
        for text in plainly.texts(2, 3):
            values = plain_values(program, text)
            due = whole(*[10 * sign + 10 + at for at, sign in enumerate(text)])
            self.assertEqual((values["t"], values["u"]), (due, due))
            self.assertEqual(values["w"], ((1, 2),) * len(text))

    def test_counted(self):
        for seed in range(200):
            signs, n = 2 + seed % 4, 1 + seed % 8
            lines, told = growing.grown(seed, signs, n, seed % 13)
            program = Program(signs, n, lines, told)
            texts = [tuple((seed + 3 * at * at + at) % signs for at in range(n)),
                     tuple((seed * at) % signs for at in range(1 + n // 2))]
            for text in texts:
                due = plainly.meaning(signs, n, lines, text)
                found = plain_values(program, list(text))
                self.assertEqual(found, {name: pairs(due[name]) for name in due})
                self.assertEqual(list(found), ["sign", "place"] + [line[1] for line in lines])
                self.assertEqual(program(text), pairs(due[told]))
                for name in found:
                    self.assertIs(type(found[name]), tuple)
                    self.assertTrue(set(found[name]) <= set(program.range_of(name)))
                self.assert_found(program, lines, due, text)

    def assert_found(self, program, lines, due, text):
        """Asserts that found_places gives the places that are counted in another way."""
        for line in lines:
            if line[0] in ("first", "last", "count", "mean"):
                for at in range(len(text)):
                    found = found_places(program, line[1], text, at)
                    self.assertEqual(found, growing.found(line, due, at))
                    self.assertIs(type(found), list)

    def test_new_and_arguments_stay(self):
        text = [0, 1]
        values = plain_values(LIKE_ME, text)
        values["c"] = None
        values.pop("sign")
        self.assertEqual(plain_values(LIKE_ME, text)["c"], whole(1, 1))
        found = found_places(LIKE_ME, "c", text, 0)
        found.append(9)
        self.assertEqual(found_places(LIKE_ME, "c", text, 0), [0])
        self.assertEqual(text, [0, 1])


class NextSign(unittest.TestCase):
    def test_next_sign(self):
        program = read(2, 4, "let t table place sign : 0 1 1/2 -1 2 1 0 1/3", "tell t")
        for text, due in [([0], 0), ([1], 1), ([0, 0], None), ([1, 1], None), ([1, 0, 0], None),
                          ([0, 1, 1], 1), ([0, 1, 1, 0], 0), ([0, 1, 1, 1], None)]:
            for some in [text, tuple(text)]:
                found = next_sign(program, some)
                self.assertEqual(found, due)
                self.assertIs(type(found), type(due))

    def test_signs(self):
        for signs in range(2, 6):
            for number in range(-2, 8):
                program = read(signs, 2, f"let a be {number}", "tell a")
                due = number if 0 <= number < signs else None
                self.assertEqual(next_sign(program, [1]), due)
        self.assertEqual(next_sign(read(3, 4, "tell sign"), [2, 0, 1]), 1)
        self.assertEqual(next_sign(read(3, 4, "tell place"), [2, 0, 1]), 2)
        self.assertIsNone(next_sign(read(3, 4, "tell place"), [2, 0, 1, 1]))

    def test_at_the_last_place(self):
        # A full text has a next sign, too.
        self.assertEqual([next_sign(TURNED, text) for text in [[1, 0], [0, 1], [1, 0, 0, 0]]],
                         [1, 0, 1])


class Errors(unittest.TestCase):
    def setUp(self):
        self.program = read(3, 4, "let a be 1", "let c count where a = sign",
                            "let f first sign where c = place else 0", "tell f")
        self.calls = [
            self.program, lambda text: plain_values(self.program, text),
            lambda text: next_sign(self.program, text),
            lambda text: found_places(self.program, "c", text, 0),
            lambda text: found_places(self.program, "f", text, None),
        ]

    def raises(self, kind, attribute, due, call, *arguments):
        """Asserts that a call raises an error of a class with an attribute."""
        with self.assertRaises(kind) as caught:
            call(*arguments)
        self.assertIs(type(caught.exception), kind)
        found = getattr(caught.exception, attribute)
        self.assertEqual(found, due)
        self.assertIs(type(found), type(due))

    def test_no_text(self):
        for call in self.calls:
            for wrong in any_values() + ["0", "01", b"0", {0: 1}, {1}, range(2), self.program]:
                if not isinstance(wrong, (list, tuple)) or len(wrong) == 0:
                    self.raises(NoText, "at", -1, call, wrong)

    def test_too_long(self):
        for call in self.calls:
            for many in [5, 6, 9, 100]:
                for part in [0, 3, None, "0", True]:
                    self.raises(TooLong, "length", many, call, [part] * many)
                    self.raises(TooLong, "length", many, call, (part,) * many)

    def test_no_sign(self):
        for call in self.calls:
            for wrong in [3, -1, 10 ** 17, None, True, False, "0", (0, 1), [0], (0,), "", self.program]:
                self.raises(NoText, "at", 0, call, [wrong])
                self.raises(NoText, "at", 2, call, [0, 1, wrong, 2])
                self.raises(NoText, "at", 1, call, (2, wrong, wrong, 5))
                self.raises(NoText, "at", 3, call, (2, 2, 2, wrong))

    def test_the_signs_of_the_program(self):
        for signs in range(2, 6):
            for n in range(1, 9):
                program = read(signs, n, "tell sign")
                self.assertEqual(program([signs - 1] * n), whole(*[signs - 1] * n))
                self.raises(NoText, "at", n - 1, program, [0] * (n - 1) + [signs])
                self.raises(TooLong, "length", n + 1, program, [signs] * (n + 1))

    def test_no_look(self):
        wrong = any_values() + ["a", "sign", "place", "x", "C", "", "c ", ("c",), ["c"], self.program]
        for name in wrong:
            for text, at in [([0, 1], 0), ([0, 1], 7), ([], 0), ([9] * 9, None), (None, None), ([7], 0)]:
                self.raises(NoName, "name", name, found_places, self.program, name, text, at)

    def test_no_place(self):
        for wrong in any_values() + ["0", 2, 3, 4, -1, -2, (0, 1), [0], 2 ** 70, self.program]:
            if isinstance(wrong, bool) or wrong not in (0, 1):
                self.raises(BadValue, "value", wrong, found_places, self.program, "c", [0, 1], wrong)
        for at in range(4):
            self.assertEqual(found_places(self.program, "c", [1] * 4, at), [0, 1, 2, 3])
        self.raises(BadValue, "value", 4, found_places, self.program, "c", [1] * 4, 4)

    def test_the_text_ahead_of_the_place(self):
        for text, kind, attribute, due in [([], NoText, "at", -1), ([0] * 5, TooLong, "length", 5),
                                           ([0, 3], NoText, "at", 1), ("01", NoText, "at", -1)]:
            for at in [0, 9, None, True]:
                self.raises(kind, attribute, due, found_places, self.program, "f", text, at)


if __name__ == "__main__":
    unittest.main()
