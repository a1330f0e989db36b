"""Point [12]: the lines that cannot stand, for the constructor of Program and for Program.read."""

import unittest

from lookingnets.errors import BadLine
from lookingnets.lines import read_line
from lookingnets.programs import Program
from tests.kinds import any_values

# Twelve lines that can stand together.
TWELVE = [f"let a{at} be {at}" for at in range(10)] + ["let b be sign", "let c be place"]


def text_of(rows):
    """The text with some rows, each with its line feed."""
    return "".join(row + "\n" for row in rows)


class Faults(unittest.TestCase):
    def built(self, line, why, signs, n, lines, told):
        """Asserts that the constructor raises this error."""
        with self.assertRaises(BadLine) as caught:
            Program(signs, n, lines, told)
        self.assertEqual((caught.exception.line, caught.exception.why), (line, why))

    def read(self, line, why, text):
        """Asserts that reading a text raises this error."""
        with self.assertRaises(BadLine) as caught:
            Program.read(text)
        found = (caught.exception.line, caught.exception.why)
        self.assertEqual(found, (line, why), str(text)[:300])

    def both(self, line, why, rows, signs=2, n=4):
        """Asserts that the let lines and the told name of some rows give this error."""
        lines = [read_line(row) for row in rows[:-1]]
        told = rows[-1].removeprefix("tell ")
        self.built(line, why, signs, n, lines, told)
        self.built(line, why, signs, n, tuple(lines), told)
        self.read(line, why, text_of([f"program {signs} {n}"] + rows))

    def stand(self, rows, signs=2, n=4):
        """Asserts that some rows can stand, and returns the program."""
        lines = [read_line(row) for row in rows[:-1]]
        program = Program(signs, n, lines, rows[-1].removeprefix("tell "))
        text = text_of([f"program {signs} {n}"] + rows)
        self.assertEqual(Program.read(text), program)
        self.assertEqual(program.text(), text)
        return program


class LineZero(Faults):
    def test_sizes_that_stand(self):
        for signs in range(2, 6):
            for n in range(1, 9):
                program = Program(signs, n, [], "sign")
                self.assertEqual((program.signs, program.n), (signs, n))
                self.assertEqual(Program.read(f"program {signs} {n}\ntell sign\n"), program)

    def test_signs_and_n(self):
        for wrong in any_values() + ["2", "4", (4, 1), 2 ** 70, -2]:
            self.built(0, "form", wrong, 4, [], "sign")
            if isinstance(wrong, bool) or wrong not in (1, 7):
                self.built(0, "form", 2, wrong, [], "sign")
        for signs, n in [(1, 4), (6, 4), (0, 4), (2, 0), (2, 9), (5, 10), (-3, 4), (3, -1), (6, 9)]:
            self.built(0, "form", signs, n, [], "sign")
            self.read(0, "form", f"program {signs} {n}\ntell sign\n")

    def test_lines_that_are_no_list(self):
        for wrong in any_values():
            if not isinstance(wrong, (list, tuple)):
                self.built(0, "form", 2, 4, wrong, "sign")
        self.built(0, "form", 2, 4, {"a": 1}, "sign")
        self.built(0, "form", 2, 4, "let a be 1", "sign")
        self.built(0, "form", 2, 4, {}, "none")

    def test_ahead_of_all_others(self):
        self.built(0, "form", 1, 4, [None], "none")
        self.built(0, "form", 2, 9, [("be", "x", ("y",))], None)
        self.built(0, "form", 6, 4, None, None)
        self.read(0, "form", "program 1 4\nlet x be\ntell\n")
        self.read(0, "form", "program 2 9\n")
        self.read(0, "form", "program 2 9\nx")

    def test_first_rows(self):
        for first in [
            "", " ", "program", "program ", "program 2", "program 2 ", "program  2 4", "program 2  4",
            " program 2 4", "program 2 4 ", "program 2 4 4", "Program 2 4", "programs 2 4",
            "program 02 4", "program 2 04", "program +2 4", "program 2 -4", "program -2 4",
            "program 2 4.", "program 2,4", "program two 4", "program 2/1 4", "program 2 4/1",
            "program 2 " + "9" * 5000, "program " + "9" * 5000 + " 4", "tell sign", "let x be 1",
            "let program 2 4", "program 2\t4",
        ]:
            self.read(0, "form", first + "\ntell sign\n")
            self.read(0, "form", first + "\n")

    def test_what_is_no_string(self):
        for value in any_values():
            self.read(0, "form", value)
        text = "program 2 4\ntell sign\n"
        for value in [[text], (text,), text.encode(), text.split("\n"), Program(2, 4, [], "sign")]:
            self.read(0, "form", value)

    def test_line_feed(self):
        self.read(0, "form", "program 2 4")
        self.read(0, "form", "program 2")
        self.read(0, "form", "tell sign")
        self.read(0, "missing", "")


class Form(Faults):
    def test_values_that_are_no_lines(self):
        for wrong in any_values() + ["let x be 1", ["be", "x", ("1",)], ("be", "x", ["1"])]:
            self.built(1, "form", 2, 4, [wrong], "sign")
            self.built(2, "form", 2, 4, [("be", "a", ("1",)), wrong], "a")
            self.built(2, "form", 2, 4, (("be", "a", ("1",)), wrong, ("be", "b", ("1",))), "a")
        self.built(1, "form", 2, 4, ["be", "x", ("1",)], "sign")
        self.built(1, "form", 2, 4, ("be", "x", ("1",)), "sign")
        self.built(1, "form", 2, 4, "x".split(), "sign")

    def test_rows_that_are_no_lines(self):
        for wrong in [
            "", " ", "x", "let", "let ", "let x", "let x be", "let x be ", "let x be 1 ", "let  x be 1",
            " let x be 1", "Let x be 1", "let sign be 1", "let x be - 1", "let x be  1", "tell",
            "telling x", "lets x be 1", "end", "program 2 4", "let x table : 2/4", "let\tx be 1",
            "let x table : -0", "let x count where a = a else 0", "let x first a where a = a",
            " tell sign", "Tell sign", "let x table  : 1", "# let x be 1",
        ]:
            self.read(1, "form", text_of(["program 2 4", wrong, "tell sign"]))
            self.read(2, "form", text_of(["program 2 4", "let a be 1", wrong, "let a be 2", "tell a"]))
            self.read(1, "form", text_of(["program 2 4", wrong]))
            self.read(3, "form", text_of(["program 2 4", "let a be 1", "let b be a", wrong]))

    def test_the_told_name(self):
        for wrong in any_values() + ["1", "be", "tell", "else", "", "aB", "abcdefg", ["a"], ("a",)]:
            self.built(1, "form", 2, 4, [], wrong)
            self.built(2, "form", 2, 4, [("be", "a", ("1",))], wrong)
        for wrong in ["1", "be", "tell", "", " ", "a ", " a", "a b", "A", "abcdefg", "sign ", "a,", "-"]:
            self.read(1, "form", f"program 2 4\ntell {wrong}\n")
            self.read(2, "form", f"program 2 4\nlet a be 1\ntell {wrong}\n")
            self.read(2, "form", f"program 2 4\nlet a be 1\ntell {wrong}\nlet b be 1\n")

    def test_behind_tell(self):
        for behind in ["\n", " ", " \n", "x", "let a be 1\n", "tell sign\n", "tell sign", "\n\n", "~\n"]:
            self.read(2, "form", "program 2 4\ntell sign\n" + behind)
            self.read(3, "form", "program 2 4\nlet a be 1\ntell a\n" + behind)
            self.read(1, "unknown", "program 2 4\ntell a\n" + behind)
            self.read(1, "form", "program 2 4\ntell 1\n" + behind)

    def test_without_the_last_line_feed(self):
        self.read(1, "form", "program 2 4\ntell sign")
        self.read(1, "form", "program 2 4\ntell x")
        self.read(1, "form", "program 2 4\n ")
        self.read(1, "form", "program 2 4\nlet a be 1")
        self.read(1, "form", "program 2 4\nlet a be b")
        self.read(2, "form", "program 2 4\nlet a be 1\ntell a")
        self.read(2, "form", "program 2 4\nlet a be 1\nlet a be 1")
        self.read(2, "form", "program 2 4\nlet a be 1\nte")
        self.read(1, "unknown", "program 2 4\nlet a be b\ntell a")
        self.read(13, "form", text_of(["program 2 4"] + TWELVE) + "let d be 1")
        self.read(13, "form", text_of(["program 2 4"] + TWELVE) + "tell c")


class Missing(Faults):
    def test_ends_ahead_of_tell(self):
        rows = ["program 2 4"] + TWELVE
        for many in range(len(rows) + 1):
            self.read(many, "missing", text_of(rows[:many]))

    def test_other_lines_count_first(self):
        self.read(1, "unknown", "program 2 4\nlet a be b\n")
        self.read(2, "twice", "program 2 4\nlet a be 1\nlet a be 1\n")
        self.read(13, "many", text_of(["program 2 4"] + TWELVE + ["let d be 1"]))
        self.read(2, "form", "program 2 4\nlet a be 1\n\n")


class Words(Faults):
    def test_many(self):
        self.stand(TWELVE + ["tell c"])
        self.both(13, "many", TWELVE + ["let d be 1", "tell d"])
        self.both(13, "many", TWELVE + ["let d be 1", "let e be 1", "tell x"])
        # Of several words the first one counts.
        self.both(13, "many", TWELVE + ["let a0 be 1", "tell d"])
        self.both(13, "many", TWELVE + ["let d be x", "tell d"])
        self.both(13, "many", TWELVE + ["let d table x x : 1", "tell d"])
        self.both(13, "form", TWELVE + ["let d be", "tell d"])
        self.both(13, "unknown", TWELVE + ["tell d"])
        self.both(12, "twice", TWELVE[:11] + ["let b be 1", "let d be 1", "tell b"])
        self.built(13, "form", 2, 4, [read_line(row) for row in TWELVE] + [None], "a1")

    def test_twice(self):
        self.both(2, "twice", ["let a be 1", "let a be 2", "tell a"])
        self.both(3, "twice", ["let a be 1", "let b be 2", "let a count where b = b", "tell a"])
        self.both(3, "twice", ["let a be 1", "let b be 2", "let b be 2", "tell a"])
        self.both(2, "twice", ["let a be 1", "let a be b", "tell a"])
        self.both(2, "twice", ["let a be 1", "let a table a a a a : 2", "tell a"])
        self.both(2, "twice", ["let a be 1", "let a be 2", "let c be d", "tell e"])

    def test_unknown(self):
        for row in [
            "let a be b", "let a be + 1 b", "let a be a", "let a table b : 0 1", "let a table a : 1",
            "let a table sign b : 1", "let a first b where sign = sign else 0",
            "let a last sign where b = sign else 0", "let a mean sign where sign = b else 0",
            "let a count where b = sign", "let a count where sign = b", "let a count where a = a",
            "let a last a where sign = sign else 0", "let a mean sign where sign pairs b else 0",
        ]:
            self.both(1, "unknown", [row, "tell a"])
            self.both(1, "unknown", [row, "let b be 1", "tell a"])
            self.both(2, "unknown", ["let c be 1", row, "let b be 1", "tell b"])
            self.both(2, "unknown", ["let c be 1", row, "let a be 1", "tell b"])
        # Ahead of the words behind it.
        self.both(1, "unknown", ["let a table b b : 1", "tell a"])
        self.both(1, "unknown", ["let a table sign sign b : 1", "tell a"])
        self.both(1, "unknown", ["let a table b :", "tell a"])
        self.both(1, "unknown", ["let a count where sign pairs b 7:7", "tell a"])

    def test_unknown_told_name(self):
        self.both(1, "unknown", ["tell a"])
        self.both(3, "unknown", ["let a be 1", "let b be 1", "tell c"])
        for told in ["sign", "place", "a", "b"]:
            self.assertEqual(self.stand(["let a be 1", "let b be 1", f"tell {told}"]).told, told)

    def test_names(self):
        three = ["let a be 1", "let b be 2", "let c be 3"]
        self.stand(three + ["let x be + a + b c", "tell x"])
        self.stand(three + ["let x be + + a a + + b b + c c", "tell x"])
        self.stand(three + ["let x table a b c : 1", "tell x"])
        self.both(4, "names", three + ["let x be + + a b + c sign", "tell x"])
        self.both(4, "names", three + ["let x be if a b + c place", "tell x"])
        self.both(4, "names", three + ["let x table a b c sign : 1 2", "tell x"])
        self.both(4, "names", three + ["let x table a b c sign :", "tell x"])
        for names in ["a a", "a b a", "b a a", "a a a", "sign sign", "a b c a"]:
            self.both(4, "names", three + [f"let x table {names} : 1", "tell x"])
        # Ahead of product and values.
        lets = ["let s be * sign place", "let p be - place sign"]
        self.both(3, "names", lets + ["let x be + + s p + sign place", "tell x"], signs=5, n=8)
        self.both(3, "names", lets + ["let x table s p s : 1", "tell x"], signs=5, n=8)

    def test_product_of_be_and_table(self):
        ten = "let t table sign place : " + " ".join(["0 1 2 3 4 5 6 7 8 9"] * 4)
        eleven = "let t table sign place : " + " ".join(["0 1 2 3 4 5 6 7 8 9"] * 3) + (
            " 0 1 2 3 4 5 6 7 8 10")
        twelve = "let t table sign place : " + " ".join(["0 1 2 3 4 5 6 7 8 9"] * 3) + (
            " 0 1 2 3 4 5 6 7 8 -1")
        four_hundred = " ".join(["1/2"] * 400)
        self.stand([ten, "let x be + sign + place t", "tell x"], signs=5, n=8)
        self.stand([ten, f"let x table sign place t : {four_hundred}", "tell x"], signs=5, n=8)
        for rows in [eleven, twelve]:
            self.both(2, "product", [rows, "let x be + sign + place t", "tell x"], signs=5, n=8)
            self.both(2, "product", [rows, f"let x table t sign place : {four_hundred}", "tell x"],
                      signs=5, n=8)
            self.both(2, "product", [rows, "let x table t sign place :", "tell x"], signs=5, n=8)
            self.stand([rows, "let x be + sign t", "tell x"], signs=5, n=8)
        # Ahead of values.
        self.both(2, "product", [eleven, "let x be * 9 * 9 * sign + place t", "tell x"], signs=5, n=8)

    def test_product_of_looks(self):
        lets = [
            "let a table sign place : " + " ".join(str(k) for k in list(range(20)) * 2),
            "let b table sign place : " + " ".join(str(min(k, 20)) for k in range(40)),
            "let m be > sign 1",
        ]
        for kind, other in [("first sign", " else 0"), ("last b", " else 0"), ("count", ""),
                            ("mean m", " else 0")]:
            for k, q in [("a", "a"), ("sign", "b"), ("b", "place")]:
                self.stand(lets + [f"let x {kind} where {k} = {q}{other}", "tell x"],
                           signs=5, n=8)
            for k, q in [("a", "b"), ("b", "a"), ("b", "b")]:
                for words in [f"{k} = {q}", f"{k} pairs {q}"]:
                    row = f"let x {kind} where {words}{other}"
                    self.both(4, "product", lets + [row, "tell x"], signs=5, n=8)
        # Ahead of values.
        for row in ["let x count where a pairs b 77:77", "let x mean b where a = b else 0"]:
            self.both(4, "product", lets + [row, "tell x"], signs=5, n=8)

    def test_values_of_be(self):
        lets = ["let a table sign : 90 -99", "let b table sign : 1/9999 1/2", "let c be 0"]
        for words in ["+ a 9", "- 0 a", "* a 1", "* b 1", "min a 9", "if c + a a a", "- b 1"]:
            self.stand(lets + [f"let x be {words}", "tell x"])
        for words in ["+ a + 9 1", "- a 1", "+ a a", "- - 0 a a", "* a a", "* b b", "- * 9 a 1",
                      "if sign + a a 0", "+ b * b b", "if c a + a a"]:
            self.both(4, "values", lets + [f"let x be {words}", "tell x"])
        self.stand(lets + ["let x be + + 9 9 * 9 9", "tell x"])
        self.stand(lets + ["let x be - 0 + + 9 9 * 9 9", "tell x"])
        self.both(4, "values", lets + ["let x be + 1 + + 9 9 * 9 9", "tell x"])
        self.both(4, "values", lets + ["let x be - 0 + 1 + + 9 9 * 9 9", "tell x"])

    def test_values_of_a_table(self):
        for names, many in [("", 1), (" sign", 2), (" place", 4), (" sign place", 8), (" a", 3),
                            (" a sign place", 24), (" place a", 12)]:
            a = "let a table place : 1 1 2 3"
            for count in [0, 1, many - 1, many, many + 1, 2 * many, 400]:
                values = " 7" * count
                rows = [a, f"let x table{names} :{values}", "tell x"]
                if count == many:
                    self.stand(rows)
                else:
                    self.both(2, "values", rows)

    def test_values_of_pairs(self):
        a = "let a table sign : -1 1/2"
        for words in [
            "a pairs sign", "a pairs sign -1:0", "a pairs sign -1:0 -1:1 1/2:0 1/2:1",
            "a pairs sign -1:1 1/2:0", "sign pairs a 0:1/2 1:-1", "sign pairs a 0:-1 0:1/2 1:-1 1:1/2",
            "place pairs place 0:3 3:0", "a pairs a -1:1/2",
        ]:
            for row in [f"let x count where {words}", f"let x last a where {words} else 0"]:
                self.stand([a, row, "tell x"])
        for words in [
            "a pairs sign 0:0", "a pairs sign -1:2", "a pairs sign 1/2:-1", "a pairs sign 1/2:1/2",
            "a pairs sign 1/2:0 -1:0", "a pairs sign -1:1 -1:0", "a pairs sign -1:0 -1:0",
            "a pairs sign -1:0 1/2:1 1/2:1", "a pairs sign -1:0 1/2:1 1/2:0", "sign pairs a 2:-1",
            "sign pairs a 0:1/2 0:-1", "sign pairs a 0:0", "place pairs place 0:4", "a pairs a 0:0",
            "place pairs place 4:0", "sign pairs a 0:-1 1:1/2 1:-1", "sign pairs a 1:-1 0:1/2",
            "a pairs sign -1:0 0:0 1/2:0", "a pairs sign -1:0 1/2:0 2:0", "a pairs sign 1/2:0 1/2:0",
            "place pairs place 0:1 2:1 1:1", "place pairs place 2:0 10:0", "place pairs sign 3:0 1:1",
        ]:
            for row in [f"let x count where {words}", f"let x last a where {words} else 0",
                        f"let x first sign where {words} else 9", f"let x mean sign where {words} else 9"]:
                self.both(2, "values", [a, row, "tell x"])

    def test_pairs_are_ordered_by_their_worth(self):
        # 1/2 is ahead of 1 and of 2/3, but behind 1/3 and -1, otherwise than tuples are.
        a = "let a table place : -1 1/3 1/2 2/3"
        words = "-1:0 1/3:0 1/2:0 2/3:0"
        self.stand([a, f"let x count where a pairs sign {words}", "tell x"])
        self.stand([a, "let x count where sign pairs a 0:-1 0:1/3 0:1/2 0:2/3 1:1/3 1:1/2", "tell x"])
        self.both(2, "values", [a, "let x count where a pairs sign 1/2:0 1/3:0", "tell x"])
        self.both(2, "values", [a, "let x count where sign pairs a 0:1/2 0:1/3", "tell x"])

    def test_values_of_a_mean(self):
        rows = ["let a table place : 1 2 3 5", "let b table place : 1 2 3 1/2",
                "let c table : 1/2", "let d table place sign : 1 2 3 4 5 5 5 5"]
        self.stand(rows + ["let x mean a where sign = sign else 0", "tell x"])
        for name in ["b", "c", "d"]:
            self.both(5, "values", rows + [f"let x mean {name} where sign = sign else 0", "tell x"])
            for kind in ["first", "last"]:
                self.stand(rows + [f"let x {kind} {name} where sign = sign else 0", "tell x"])
        self.both(1, "values", ["let x mean sign where sign = sign else 0", "tell x"], signs=5, n=1)
        self.stand(["let x mean sign where sign = sign else 0", "tell x"], signs=4, n=1)
        self.both(1, "values", ["let x mean place where sign = sign else 0", "tell x"], n=5)
        # K and Q may be anything.
        self.stand(rows + ["let x mean sign where b = d else 0", "tell x"])

    def test_range(self):
        count = "let b table sign : 1 2 3"
        forty = " ".join(str(min(k, 39)) for k in range(48))
        more = " ".join(str(min(k, 40)) for k in range(48))
        names = "sign b place"
        self.stand([f"{count}", f"let x table sign b place : {' '.join(['0'] * 72)}", "tell x"],
                   signs=3, n=8)
        two = "let b table sign place : 1 2 3 1 2 3 1 2 3 1 2 3 1 2 3 1"
        self.stand([two, f"let x table {names} : {forty}", "tell x"], signs=2, n=8)
        self.both(2, "range", [two, f"let x table {names} : {more}", "tell x"], signs=2, n=8)
        self.stand(["let x be + * 8 sign place", "tell x"], signs=5, n=8)
        self.both(2, "range", ["let s be + * 8 sign place", "let x be if sign s - - 0 1 s", "tell x"],
                  signs=5, n=8)
        forties = ["let s be + * 8 sign place"]
        for kind in ["first", "last"]:
            for number in [0, 5, 9]:
                self.stand(forties + [f"let x {kind} s where sign = sign else {number}", "tell x"],
                           signs=5, n=8)
            self.both(2, "range", forties + [f"let x {kind} s where sign = sign else -1", "tell x"],
                      signs=5, n=8)
        four = ["let a table place : 0 1 10 99" + " 0" * 4]
        self.both(2, "range", four + ["let x mean a where sign = sign else 0", "tell x"], n=8)
        self.stand(["let x mean sign where sign = sign else 0", "tell x"], signs=3, n=5)

    def test_range_of_a_mean_by_count(self):
        # The means of 0 and 1 for n up to 8 are 23 fractions.
        self.stand(["let x mean sign where sign = sign else -1", "tell x"], n=8)
        # Those of 0, 1 and 2 for n = 8 are 45, for n = 7 they are 37, with another number 38.
        self.both(1, "range", ["let x mean sign where sign = sign else 0", "tell x"], signs=3, n=8)
        self.stand(["let x mean sign where sign = sign else 0", "tell x"], signs=3, n=7)
        self.stand(["let x mean sign where sign = sign else -1", "tell x"], signs=3, n=7)

    def test_values_ahead_of_range(self):
        forties = ["let s be + * 8 sign place"]
        self.both(2, "values", forties + ["let x be * s 3", "tell x"], signs=5, n=8)
        self.both(2, "values", forties + ["let x last s where sign pairs sign 5:5 else -1", "tell x"],
                  signs=5, n=8)

    def test_the_first_faulty_line_counts(self):
        self.both(1, "unknown", ["let a be b", "let c be", "tell"])
        self.both(2, "names", ["let a be 1", "let b table a a : 1", "let a be 1", "tell x"])
        self.both(2, "values", ["let a be 1", "let b table a : 1 2", "let c", "tell 1"])
        self.both(1, "values", ["let b table : 1 2", "tell 1"])
        self.both(2, "form", ["let a be 1", "let", "let a be 1", "tell a"])
        self.both(2, "form", ["let a be 1", "tell 1"])
        self.built(2, "form", 2, 4, [("be", "a", ("1",)), None, ("be", "a", ("1",))], None)


if __name__ == "__main__":
    unittest.main()
