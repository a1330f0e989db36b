"""Points [2], [5] and [37], and the section lookingnets/writing.py of the interface."""

import copy
import inspect
import random
import unittest

from lookingnets import writing
from lookingnets.changes import shortened
from lookingnets.errors import BadPair, BadValue, NothingLeft, NoText, TooLong
from lookingnets.fittings import Fitting, make
from lookingnets.programs import Program
from lookingnets.writing import Writer, write
from tests import plainly
from tests.growing import grown
from tests.kinds import any_values
from tests.test_fittings import read

METHODS = {
    "__init__": ["self", "fitting", "text"], "text": ["self"], "step": ["self"], "back": ["self"],
    "use": ["self", "fitting"], "twin": ["self"],
}
# The sign is turned about; it is raised as long as it can be; it is the number of the ones.
TURN = read(2, 6, "let a be - 1 sign", "tell a")
RAISE = read(3, 6, "let a be + 1 sign", "tell a")
ONES = read(4, 6, "let t be 1", "let a count where sign = t", "tell a")
# 1/2 at the first place, and -1 behind the place 3.
HALVES = read(2, 6, "let a be if = place 0 1 0", "let b table a : 1 1/2", "tell b")
DOWN = read(2, 6, "let a be if < place 3 sign -1", "tell a")
PROGRAMS = [TURN, RAISE, ONES, HALVES, DOWN, read(2, 6, "tell sign"), read(3, 6, "tell place"),
            read(5, 6, "let l last sign where sign > sign else 4", "tell l"),
            read(2, 6, "let m mean sign where place <= place else 0", "tell m")]


def next_due(program, text):
    """The next sign of a text, or None, counted in another way."""
    x = plainly.meaning(program.signs, program.n, program.lines(), text)[program.told][-1]
    return int(x) if x in range(program.signs) else None


def written_due(program, text, most=40):
    """What writing from a text gives, counted in another way."""
    text = list(text)
    for _ in range(most):
        sign = next_due(program, text)
        if len(text) < program.n and sign is not None:
            text.append(sign)
    return tuple(text)


class Interface(unittest.TestCase):
    def test_function_and_methods(self):
        self.assertTrue(inspect.isfunction(writing.write))
        self.assertEqual((write.__module__, Writer.__module__), ("lookingnets.writing",) * 2)
        parameters = inspect.signature(write).parameters
        self.assertEqual(list(parameters), ["source", "text", "most"])
        self.assertEqual(parameters["most"].kind, inspect.Parameter.KEYWORD_ONLY)
        self.assertEqual(parameters["most"].default, 40)
        for name, names in METHODS.items():
            self.assertIn(name, vars(Writer))
            self.assertEqual(list(inspect.signature(getattr(Writer, name)).parameters), names)
        for name in ["__len__", "__repr__"]:
            self.assertIn(name, vars(Writer))
        self.assertIsInstance(vars(Writer)["ended"], property)

    def test_parameters(self):
        self.assertEqual(write(most=2, text=[0], source=TURN), (0, 1, 0))
        with self.assertRaises(TypeError):
            write(TURN, [0], 2)
        writer = Writer(text=[0], fitting=make(TURN))
        writer.use(fitting=make(TURN))
        self.assertEqual(writer.step(), 1)


class Writing(unittest.TestCase):
    def test_written_out(self):
        for program, text, due in [
            (TURN, [0], (0, 1, 0, 1, 0, 1)), (TURN, [1, 1], (1, 1, 0, 1, 0, 1)), (RAISE, [0], (0, 1, 2)),
            (RAISE, [1], (1, 2)), (RAISE, [0, 2], (0, 2)), (ONES, [1], (1, 1, 2, 2, 2, 2)),
            (ONES, [1, 1, 1], (1, 1, 1, 3, 3, 3)), (ONES, [1, 1, 1, 1], (1, 1, 1, 1)), (ONES, [0], (0,) * 6),
            (HALVES, [0], (0,)), (HALVES, [0, 0], (0, 0, 1, 1, 1, 1)), (DOWN, [1], (1, 1, 1, 1)),
            (DOWN, [0, 1, 0, 1], (0, 1, 0, 1)), (TURN, [0] * 6, (0,) * 6), (TURN, [1] * 5, (1, 1, 1, 1, 1, 0)),
        ]:
            for source in [program, make(program)]:
                for some in [text, tuple(text)]:
                    found = write(source, some)
                    self.assertEqual(found, due)
                    self.assertIs(type(found), tuple)

    def test_most(self):
        for source in [TURN, make(TURN)]:
            for most in range(41):
                self.assertEqual(write(source, [1, 1], most=most), (1, 1, 0, 1, 0, 1)[:2 + most])
        text = [1]
        self.assertEqual(write(RAISE, text, most=0), (1,))
        self.assertEqual(text, [1])

    def test_counted(self):
        for seed in range(80):
            chance = random.Random(seed)
            signs, n = chance.randint(2, 5), chance.randint(1, 8)
            lines, told = grown(seed + 90, signs, n, chance.randint(0, 4))
            program = Program(signs, n, lines, told)
            text = [chance.randrange(signs) for _ in range(chance.randint(1, n))]
            most = chance.randint(0, 8)
            due = written_due(program, text, most)
            self.assertEqual(write(program, text, most=most), due)
            self.assertEqual(write(make(program), text, most=most), due)
            self.assertEqual(write(program, text), written_due(program, text))

    def test_errors_in_order(self):
        for source in [RAISE, make(RAISE)]:
            wrong = [value for value in any_values() if value != 0 and value != 1 and value != 7] + [
                41, -1, 100, True, False, "5", (5,), (5, 1), 5.0]
            for most in wrong:
                with self.assertRaises(BadValue) as caught:
                    write(source, [0], most=most)
                self.assertEqual(caught.exception.value, most)
            for most in [0, 40, None, -1]:
                for text in any_values() + ["01"]:
                    if isinstance(text, (list, tuple)) and len(text) > 0:
                        continue
                    with self.assertRaises(NoText) as caught:
                        write(source, text, most=most)
                    self.assertEqual(caught.exception.at, -1)
                for text in [[0] * 7, ["x"] * 9, (None,) * 7]:
                    with self.assertRaises(TooLong) as caught:
                        write(source, text, most=most)
                    self.assertEqual(caught.exception.length, len(text))
                for text, at in [([3], 0), ([0, -1, 9], 1), ((0, 1, True), 2), ([0, (1, 1)], 1), ([[0]], 0)]:
                    with self.assertRaises(NoText) as caught:
                        write(source, text, most=most)
                    self.assertEqual(caught.exception.at, at)


class Writers(unittest.TestCase):
    def state(self, writer):
        """All that a writer tells."""
        return (writer.fitting, writer.text(), writer.ended, len(writer), repr(writer))

    def refuses(self, error, what, writer, call, *values):
        """Asserts that a call raises an error, and changes nothing."""
        before = self.state(writer)
        with self.assertRaises(error) as caught:
            call(*values)
        self.assertIs(type(caught.exception), error)
        if what is not None:
            self.assertEqual(caught.exception.what, what)
        self.assertEqual(self.state(writer), before)

    def test_step_and_back(self):
        fitting = make(RAISE)
        text = [0]
        writer = Writer(fitting, text)
        self.assertIs(writer.fitting, fitting)
        self.assertEqual(self.state(writer), (fitting, (0,), False, 0, "Writer(1 signs)"))
        self.assertIs(bool(writer), True)
        self.refuses(NothingLeft, None, writer, writer.back)
        text.append(1)
        self.assertEqual(writer.text(), (0,))
        self.assertEqual(writer.step(), 1)
        self.assertEqual(self.state(writer), (fitting, (0, 1), False, 1, "Writer(2 signs)"))
        self.assertEqual(writer.step(), 2)
        self.assertEqual(self.state(writer), (fitting, (0, 1, 2), True, 2, "Writer(3 signs)"))
        self.refuses(NothingLeft, None, writer, writer.step)
        self.assertEqual(writer.back(), 2)
        self.assertEqual(self.state(writer), (fitting, (0, 1), False, 1, "Writer(2 signs)"))
        self.assertEqual(writer.step(), 2)
        self.assertEqual([writer.back(), writer.back()], [2, 1])
        self.refuses(NothingLeft, None, writer, writer.back)
        self.assertEqual(self.state(writer), (fitting, (0,), False, 0, "Writer(1 signs)"))
        self.assertIs(type(writer.text()), tuple)
        self.assertIs(type(writer.ended), bool)

    def test_ended_by_the_length(self):
        writer = Writer(make(TURN), [0, 0, 0, 0])
        self.assertEqual([writer.step(), writer.step()], [1, 0])
        self.assertEqual((writer.text(), writer.ended, len(writer)), ((0, 0, 0, 0, 1, 0), True, 2))
        self.refuses(NothingLeft, None, writer, writer.step)
        writer = Writer(make(TURN), (1,) * 6)
        self.assertEqual((writer.ended, len(writer), repr(writer)), (True, 0, "Writer(6 signs)"))
        self.refuses(NothingLeft, None, writer, writer.step)
        self.refuses(NothingLeft, None, writer, writer.back)
        self.assertIs(bool(writer), True)

    def test_ended_by_what_is_no_sign(self):
        for program, text in [(HALVES, [1]), (DOWN, [0, 0, 0, 0]), (RAISE, [2]), (ONES, [1] * 4)]:
            writer = Writer(make(program), text)
            self.assertIs(writer.ended, True)
            self.refuses(NothingLeft, None, writer, writer.step)

    def test_use(self):
        first, second = make(TURN), make(read(2, 6, "tell sign"))
        writer = Writer(first, [0])
        writer.step()
        self.assertIsNone(writer.use(second))
        self.assertIs(writer.fitting, second)
        self.assertEqual([writer.step(), writer.step()], [1, 1])
        writer.use(first)
        self.assertEqual([writer.step(), writer.back(), writer.back()], [0, 0, 1])
        self.assertEqual((writer.text(), len(writer)), ((0, 1, 1), 2))
        # Whether it has ended hangs on the fitting.
        writer.use(make(HALVES))
        self.assertIs(writer.ended, False)
        writer = Writer(first, [0])
        writer.use(make(HALVES))
        self.assertIs(writer.ended, True)
        writer.use(first)
        self.assertIs(writer.ended, False)
        # What was put on by one fitting is taken off, and the other one goes on from there.
        writer = Writer(second, [1])
        writer.step()
        writer.use(first)
        self.assertEqual(writer.back(), 1)
        self.assertEqual(writer.step(), 0)

    def test_fittings_that_do_not_fit(self):
        writer = Writer(make(TURN), [0])
        writer.step()
        for signs, n in [(3, 6), (3, 5), (5, 8)]:
            self.refuses(BadPair, "signs", writer, writer.use, make(read(signs, n, "tell sign")))
        for n in [1, 5, 7, 8]:
            self.refuses(BadPair, "places", writer, writer.use, make(read(2, n, "tell sign")))
        self.refuses(BadPair, "places", writer, writer.use, shortened(make(TURN), 5))
        self.assertEqual(writer.step(), 0)

    def test_twin(self):
        writer = Writer(make(TURN), [0, 0])
        writer.step()
        twin = writer.twin()
        self.assertIs(type(twin), Writer)
        self.assertEqual(self.state(twin), self.state(writer))
        twin.step()
        twin.use(make(read(2, 6, "tell sign")))
        self.assertEqual(self.state(writer), (make(TURN), (0, 0, 1), False, 1, "Writer(3 signs)"))
        self.assertEqual([writer.back(), twin.back(), twin.back()], [1, 0, 1])
        self.refuses(NothingLeft, None, twin, twin.back)
        self.refuses(NothingLeft, None, writer, writer.back)
        self.assertEqual((twin.step(), writer.step()), (0, 1))

    def test_wrong_texts(self):
        fitting = make(RAISE)
        for text in any_values() + ["01", {0: 1}]:
            if isinstance(text, (list, tuple)) and len(text) > 0:
                continue
            with self.assertRaises(NoText) as caught:
                Writer(fitting, text)
            self.assertEqual(caught.exception.at, -1)
        for text in [[0] * 7, ("x",) * 8]:
            with self.assertRaises(TooLong) as caught:
                Writer(fitting, text)
            self.assertEqual(caught.exception.length, len(text))
        for text, at in [([3], 0), ([0, True], 1), ((0, 1, None), 2), ([0, 10 ** 20], 1)]:
            with self.assertRaises(NoText) as caught:
                Writer(fitting, text)
            self.assertEqual(caught.exception.at, at)

    def test_against_another_way(self):
        fittings = {signs: [make(program) for program in PROGRAMS if program.signs == signs] for signs in range(2, 6)}
        for seed in range(60):
            chance = random.Random(seed)
            signs = chance.choice([2, 2, 3, 4, 5])
            fitting = chance.choice(fittings[signs])
            start = [chance.randrange(signs) for _ in range(chance.randint(1, 4))]
            writer, text = Writer(fitting, start), list(start)
            for _ in range(25):
                due = next_due(fitting.program, text) if len(text) < 6 else None
                deed = chance.choice(["step", "step", "back", "use", "twin"])
                if deed == "step" and due is None:
                    self.refuses(NothingLeft, None, writer, writer.step)
                elif deed == "step":
                    self.assertEqual(writer.step(), due)
                    text.append(due)
                elif deed == "back" and len(text) == len(start):
                    self.refuses(NothingLeft, None, writer, writer.back)
                elif deed == "back":
                    self.assertEqual(writer.back(), text.pop())
                elif deed == "use":
                    fitting = chance.choice(fittings[signs])
                    writer.use(fitting)
                else:
                    writer = writer.twin()
                due = next_due(fitting.program, text) if len(text) < 6 else None
                self.assertEqual(self.state(writer), (
                    fitting, tuple(text), due is None, len(text) - len(start), f"Writer({len(text)} signs)"))


class Never(unittest.TestCase):
    def test_fittings_stay(self):
        fitting = make(TURN)
        text = fitting.text()
        writer = Writer(fitting, [0])
        for _ in range(3):
            writer.step()
        write(fitting, [0])
        self.assertEqual(fitting.text(), text)
        self.assertEqual(fitting, Fitting.read(copy.copy(text)))


if __name__ == "__main__":
    unittest.main()
