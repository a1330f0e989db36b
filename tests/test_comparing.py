"""Point [36], and the section lookingnets/comparing.py of the interface."""

import inspect
import itertools
import unittest

from lookingnets import comparing
from lookingnets.comparing import all_texts, alike, count_texts, first_difference
from lookingnets.errors import BadPair, TooMany
from lookingnets.programs import Program
from tests import plainly
from tests.growing import grown

PARAMETERS = {
    "count_texts": ["signs", "n"], "all_texts": ["signs", "n"], "first_difference": ["p", "q"],
    "alike": ["p", "q"],
}
# The number of all texts for each signs and n, added up by hand: 2 + 4 + 8 + .. and so on.
COUNTS = {
    2: [2, 6, 14, 30, 62, 126, 254, 510],
    3: [3, 12, 39, 120, 363, 1092, 3279, 9840],
    4: [4, 20, 84, 340, 1364, 5460, 21844, 87380],
    5: [5, 30, 155, 780, 3905, 19530, 97655, 488280],
}


def read(signs, n, *rows):
    """The program with some rows behind the first one."""
    return Program.read("".join(f"{row}\n" for row in (f"program {signs} {n}",) + rows))


class Interface(unittest.TestCase):
    def test_names_and_parameters(self):
        for name, parameters in PARAMETERS.items():
            function = getattr(comparing, name)
            self.assertTrue(inspect.isfunction(function), name)
            self.assertEqual(function.__module__, "lookingnets.comparing")
            self.assertEqual(list(inspect.signature(function).parameters), parameters)
        self.assertTrue(inspect.isgeneratorfunction(all_texts))

    def test_parameters_by_name(self):
        p, q = read(2, 1, "tell sign"), read(2, 1, "tell place")
        self.assertEqual(count_texts(n=1, signs=3), 3)
        self.assertEqual(list(all_texts(n=1, signs=3)), [(0,), (1,), (2,)])
        self.assertEqual(first_difference(q=q, p=p), (1,))
        self.assertIs(alike(q=q, p=p), False)


class Texts(unittest.TestCase):
    def test_counts(self):
        for signs, counts in COUNTS.items():
            for n, count in enumerate(counts, 1):
                self.assertEqual(count_texts(signs, n), count)

    def test_in_order(self):
        self.assertEqual(list(all_texts(2, 1)), [(0,), (1,)])
        self.assertEqual(list(all_texts(2, 3)), [
            (0,), (1,), (0, 0), (0, 1), (1, 0), (1, 1), (0, 0, 0), (0, 0, 1), (0, 1, 0), (0, 1, 1),
            (1, 0, 0), (1, 0, 1), (1, 1, 0), (1, 1, 1)])
        self.assertEqual(list(all_texts(3, 2)), [
            (0,), (1,), (2,), (0, 0), (0, 1), (0, 2), (1, 0), (1, 1), (1, 2), (2, 0), (2, 1), (2, 2)])

    def test_counted(self):
        for signs, counts in COUNTS.items():
            for n, count in enumerate(counts, 1):
                if count <= 5000:
                    texts = list(all_texts(signs, n))
                    self.assertEqual(texts, sorted(
                        itertools.chain(*[itertools.product(range(signs), repeat=length)
                                          for length in range(1, n + 1)]),
                        key=lambda text: (len(text), text)))
                    self.assertTrue(all(type(text) is tuple for text in texts))
                    self.assertEqual(len(texts), count)

    def test_too_many(self):
        for signs, counts in COUNTS.items():
            for n, count in enumerate(counts, 1):
                if count > 5000:
                    # The call alone raises nothing.
                    texts = all_texts(signs, n)
                    with self.assertRaises(TooMany) as caught:
                        next(texts)
                    self.assertEqual((caught.exception.what, caught.exception.count), ("texts", count))


class Alike(unittest.TestCase):
    def test_alike(self):
        for rows, others in [
            (["let a be + sign sign", "tell a"], ["let b be * 2 sign", "tell b"]),
            (["tell sign"], ["let a first sign where place = place else 7", "tell a"]),
            (["tell place"], ["let a count where place < place", "tell a"]),
            (["let a be 1", "let b be 2", "tell a"], ["let c table : 1", "tell c"]),
            (["tell sign"], ["tell sign"]),
        ]:
            p, q = read(3, 4, *rows), read(3, 4, *others)
            for left, right in [(p, q), (q, p), (p, p)]:
                self.assertIsNone(first_difference(left, right))
                self.assertIs(alike(left, right), True)

    def test_differ_at_the_last_text_alone(self):
        zero = read(2, 4, "let a be 0", "tell a")
        for last in ["= c 4", "if = c 4 = place 0 0", "if = c 4 = place 3 0", "if = c 4 = place 1 0"]:
            program = read(2, 4, "let o be 1", "let c count where sign = o", f"let a be {last}", "tell a")
            for p, q in [(zero, program), (program, zero)]:
                self.assertEqual(first_difference(p, q), (1, 1, 1, 1))
                self.assertIs(alike(p, q), False)
        found = first_difference(zero, program)
        self.assertIs(type(found), tuple)

    def test_the_first_of_several(self):
        zero = read(2, 4, "let a be 0", "tell a")
        for words, due in [("sign", (1,)), ("- 1 sign", (0,)), ("place", (0, 0)), ("* sign place", (0, 1)),
                           ("= place 2", (0, 0, 0)), ("> place 2", (0, 0, 0, 0)), ("1", (0,))]:
            self.assertEqual(first_difference(zero, read(2, 4, f"let b be {words}", "tell b")), due)

    def test_the_told_names_alone_count(self):
        p = read(2, 3, "let a be 1", "let b be sign", "tell b")
        q = read(2, 3, "let a be 2", "let b be sign", "let c be 7", "tell b")
        self.assertIs(alike(p, q), True)

    def test_counted(self):
        differ = 0
        for seed in range(60):
            signs, n = 2 + seed % 2, 1 + seed % 4
            some, told = grown(seed, signs, n, 1 + seed % 4)
            others, other_told = grown(seed + 1, signs, n, 1 + seed % 3)
            due = None
            for text in plainly.texts(signs, n):
                if due is None and plainly.meaning(signs, n, some, text)[told] != (
                        plainly.meaning(signs, n, others, text)[other_told]):
                    due = text
            p, q = Program(signs, n, some, told), Program(signs, n, others, other_told)
            self.assertEqual(first_difference(p, q), due)
            self.assertEqual(alike(p, q), due is None)
            differ += due is not None
        self.assertGreater(differ, 20)

    def raises(self, kind, due, p, q):
        """Asserts that both functions raise an error with these attributes."""
        for call in [first_difference, alike]:
            with self.assertRaises(kind) as caught:
                call(p, q)
            error = caught.exception
            found = error.what if kind is BadPair else (error.what, error.count)
            self.assertEqual(found, due)

    def test_errors_in_order(self):
        programs = {(signs, n): read(signs, n, "tell sign")
                    for signs in range(2, 6) for n in range(1, 9)}
        for (signs, n), p in programs.items():
            for (other_signs, other_n), q in programs.items():
                if signs != other_signs:
                    self.raises(BadPair, "signs", p, q)
                elif n != other_n:
                    self.raises(BadPair, "places", p, q)
            if COUNTS[signs][n - 1] > 5000:
                self.raises(TooMany, ("texts", COUNTS[signs][n - 1]), p, p)
                self.raises(TooMany, ("texts", COUNTS[signs][n - 1]), p,
                            read(signs, n, "let a be 7", "tell a"))

    def test_the_most_texts(self):
        for signs, n in [(5, 5), (3, 7)]:
            p = read(signs, n, "tell sign")
            self.assertIsNone(first_difference(p, p))
            q = read(signs, n, f"let a be if = place {n - 1} + sign 1 sign", "tell a")
            self.assertEqual(first_difference(p, q), (0,) * n)


if __name__ == "__main__":
    unittest.main()
