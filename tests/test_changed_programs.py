"""Points [15] to [17]: pruned, shortened and joined programs."""

import unittest

from lookingnets.errors import BadChange, BadLine
from lookingnets.programs import Program
from tests import plainly
from tests.growing import grown
from tests.kinds import any_values


def read(signs, n, *rows):
    """The program with some rows behind the first one."""
    return Program.read("".join(f"{row}\n" for row in (f"program {signs} {n}",) + rows))


class Changed(unittest.TestCase):
    def raises(self, what, call, *arguments):
        """Asserts that a call raises BadChange."""
        with self.assertRaises(BadChange) as caught:
            call(*arguments)
        self.assertEqual(caught.exception.what, what)

    def assert_meaning(self, program, told, texts):
        """Asserts that a program tells, at each text, what a function of it gives."""
        for text in texts:
            self.assertEqual(program(text), plainly.pairs(told(text)), text)


class Pruned(Changed):
    def test_written_out(self):
        rows = ["let a be 1", "let b be a", "let c count where a = sign", "let d table b : 7",
                "let e first c where d = place else 0"]
        for told, kept in [("sign", []), ("place", []), ("a", [0]), ("b", [0, 1]), ("c", [0, 2]),
                           ("d", [0, 1, 3]), ("e", [0, 1, 2, 3, 4])]:
            program = read(3, 4, *rows, f"tell {told}")
            pruned = program.pruned()
            self.assertEqual(pruned, read(3, 4, *[rows[at] for at in kept], f"tell {told}"))
            self.assertIs(type(pruned), Program)
            self.assertEqual(program, read(3, 4, *rows, f"tell {told}"))

    def test_meaning(self):
        for seed in range(60):
            signs, n = 2 + seed % 2, 1 + seed % 4
            lines, _ = grown(seed, signs, n, 1 + seed % 10)
            for told in [lines[len(lines) // 2][1], lines[0][1]]:
                program = Program(signs, n, lines, told)
                pruned = program.pruned()
                self.assertEqual(pruned.names(), program.needed())
                self.assertEqual(pruned.pruned(), pruned)
                self.assert_meaning(
                    pruned, lambda text: plainly.meaning(signs, n, lines, text)[told],
                    plainly.texts(signs, n)[-5:])


class Shortened(Changed):
    def test_written_out(self):
        program = read(
            2, 4,
            "let a be - 3 place",
            "let b table a sign : 0 1 10 11 20 21 30 31",
            "let c table place : 5 6 7 8",
            "let d count where a pairs place 0:0 1:3 2:1 2:2 3:0 3:1",
            "let e table d : 0 1 2 3 4",
            "let f last c where a < place else 6",
            "let g mean sign where a pairs a 0:0 3:3 else 0",
            "let h be + d b",
            "tell h",
        )
        self.assertEqual(program.shortened(2), read(
            2, 2,
            "let a be - 3 place",
            "let b table a sign : 20 21 30 31",
            "let c table place : 5 6",
            "let d count where a pairs place 2:1 3:0 3:1",
            "let e table d : 0 1 2",
            "let f last c where a < place else 6",
            "let g mean sign where a pairs a 3:3 else 0",
            "let h be + d b",
            "tell h",
        ))
        self.assertEqual(program.shortened(1).text(), (
            "program 2 1\nlet a be - 3 place\nlet b table a sign : 30 31\nlet c table place : 5\n"
            "let d count where a pairs place 3:0\nlet e table d : 0 1\n"
            "let f last c where a < place else 6\nlet g mean sign where a pairs a 3:3 else 0\n"
            "let h be + d b\ntell h\n"))

    def test_the_same_length(self):
        for seed in range(30):
            lines, told = grown(seed, 2 + seed % 4, 1 + seed % 8, seed % 9)
            program = Program(2 + seed % 4, 1 + seed % 8, lines, told)
            self.assertEqual(program.shortened(program.n), program)

    def test_restricted_through_other_lines(self):
        # The range of a shrinks with that of place, and that of b with that of a; the mean's too.
        program = read(2, 3, "let a table place : 1 1/2 7", "let b be + a a", "let c table b a : "
                       "1 2 3 4 5 6 7 8 9", "let d mean sign where sign = sign else 0",
                       "let e table d : 9 8 7 6 5", "tell e")
        self.assertEqual(program.shortened(2), read(
            2, 2, "let a table place : 1 1/2", "let b be + a a", "let c table b a : 1 2 4 5",
            "let d mean sign where sign = sign else 0", "let e table d : 9 7 5", "tell e"))

    def test_pairs_that_all_go(self):
        program = read(2, 4, "let a first sign where place pairs place 3:3 else 0", "tell a")
        self.assertEqual(program.shortened(3).text(),
                         "program 2 3\nlet a first sign where place pairs place else 0\ntell a\n")

    def test_meaning(self):
        for seed in range(80):
            signs, n = 2 + seed % 2, 2 + seed % 4
            lines, told = grown(seed, signs, n, 1 + seed % 10)
            program = Program(signs, n, lines, told)
            for m in range(1, n):
                shorter = program.shortened(m)
                self.assertEqual((shorter.signs, shorter.n, shorter.told), (signs, m, told))
                ranges = plainly.ranges_of(signs, m, shorter.lines())
                self.assertEqual(shorter.range_of(told), plainly.pairs(ranges[told]))
                self.assert_meaning(
                    shorter, lambda text: plainly.meaning(signs, n, lines, text)[told],
                    plainly.texts(signs, m)[-4:])

    def test_places(self):
        program = read(2, 4, "let a be place", "tell a")
        for wrong in any_values() + ["2", 0, 5, 6, -1, 2 ** 70, (2, 1), (2,), [2], program]:
            if isinstance(wrong, bool) or wrong != 1:
                self.raises("places", program.shortened, wrong)
        self.assertEqual(program.shortened(1).n, 1)
        self.assertEqual(program, read(2, 4, "let a be place", "tell a"))


class Joined(Changed):
    def test_written_out(self):
        p = read(2, 3, "let a be + sign place", "let b count where a = sign", "let c be > b 1",
                 "let d be place", "tell c")
        q = read(3, 3, "let c table sign place : 0 1 2 10 11 12 20 21 22", "let a last sign where c = "
                 "place else 2", "let x first place where sign pairs c 0:0 1:1 1:11 2:22 else -1",
                 "let y be if sign a x", "tell y")
        due = read(
            2, 3, "let v0 be + sign place", "let v1 count where v0 = sign", "let v2 be > v1 1",
            "let v3 be place", "let v4 table v2 place : 0 1 2 10 11 12",
            "let v5 last v2 where v4 = place else 2",
            "let v6 first place where v2 pairs v4 0:0 1:1 1:11 else -1", "let v7 be if v2 v5 v6",
            "tell v7")
        joined = p.then(q)
        self.assertEqual(joined, due)
        self.assertIs(type(joined), Program)
        self.assertEqual((p.names(), q.names()), (["a", "b", "c", "d"], ["c", "a", "x", "y"]))

    def test_told_names(self):
        p = read(2, 3, "let a be 1", "let b be - 1 sign", "tell b")
        q = read(2, 3, "let b be sign", "let a be 0", "tell sign")
        self.assertEqual(p.then(q), read(2, 3, "let v0 be 1", "let v1 be - 1 sign", "let v2 be v1",
                                         "let v3 be 0", "tell v1"))
        q = read(2, 3, "let b be sign", "tell place")
        self.assertEqual(p.then(q).told, "place")
        p = read(2, 3, "let a be 1", "tell sign")
        self.assertEqual(p.then(q), read(2, 3, "let v0 be 1", "let v1 be sign", "tell place"))
        q = read(4, 3, "let b be 7", "tell sign")
        self.assertEqual(p.then(q), read(2, 3, "let v0 be 1", "let v1 be 7", "tell sign"))
        empty = read(2, 3, "tell sign")
        self.assertEqual(empty.then(empty), empty)

    def test_names_that_are_called_as_the_new_ones(self):
        p = read(2, 2, "let v1 be sign", "let v0 be - 1 v1", "tell v0")
        q = read(2, 2, "let v3 be sign", "let v0 be v3", "let v2 be + v0 v3", "tell v2")
        self.assertEqual(p.then(q), read(
            2, 2, "let v0 be sign", "let v1 be - 1 v0", "let v2 be v1", "let v3 be v2",
            "let v4 be + v3 v2", "tell v4"))

    def test_tables_keep_the_order_of_their_names(self):
        p = read(2, 2, "let a be - 1 sign", "tell a")
        q = read(2, 2, "let b be + sign 1", "let c table place b sign : 0 1 2 3 4 5 6 7",
                 "let d table sign b : 0 1 2 3", "tell c")
        self.assertEqual(p.then(q), read(
            2, 2, "let v0 be - 1 sign", "let v1 be + v0 1", "let v2 table place v1 v0 : "
            "0 1 2 3 4 5 6 7", "let v3 table v0 v1 : 0 1 2 3", "tell v2"))

    def test_restricted_to_what_is_told(self):
        p = read(2, 2, "let a table sign : 3 1", "tell a")
        twenty_five = " ".join(str(number) for number in range(1, 26))
        q = read(5, 2, "let b table sign : 0 10 20 30 40", "let c be + b sign",
                 f"let d table c : {twenty_five}",
                 "let e count where sign pairs d 0:1 1:7 2:9 3:17 3:18 4:1", "tell d")
        # What is told is 1 or 3, so b is 10 or 30, and c is 11, 13, 31 or 33.
        self.assertEqual(p.then(q), read(
            2, 2, "let v0 table sign : 3 1", "let v1 table v0 : 10 30", "let v2 be + v1 v0",
            "let v3 table v2 : 7 9 17 19", "let v4 count where v0 pairs v3 1:7 3:17", "tell v3"))

    def test_works_with_the_text_that_is_told(self):
        joined = 0
        for seed in range(150):
            n = 1 + seed % 4
            p_lines, _ = grown(seed, 2, n, 1 + seed % 5)
            q_lines, q_told = grown(seed + 1000, 3, n, 1 + seed % 7)
            ranges = plainly.ranges_of(2, n, p_lines)
            fitting = [name for name in ranges
                       if name != "place" and set(ranges[name]) <= {0, 1, 2}]
            p_told = fitting[seed % len(fitting)]
            program = Program(2, n, p_lines, p_told).then(Program(3, n, q_lines, q_told))
            self.assertEqual(program.names(), [f"v{at}" for at in range(len(program))])
            self.assertEqual(len(program), len(p_lines) + len(q_lines))

            def told(text):
                """What q tells at the text that p tells."""
                between = plainly.meaning(2, n, p_lines, text)[p_told]
                return plainly.meaning(3, n, q_lines, [int(sign) for sign in between])[q_told]
            self.assert_meaning(program, told, plainly.texts(2, n))
            joined += p_told != "sign"
        self.assertGreater(joined, 50)

    def test_three_programs(self):
        for seed in range(80):
            n = 1 + seed % 4
            three = []
            for part in range(3):
                signs = 2 + (seed + part) % 2
                lines, _ = grown(seed + 500 * part, signs, n, seed % 4 + part % 2)
                ranges = plainly.ranges_of(signs, n, lines)
                fitting = [name for name in ranges if name != "place" and set(ranges[name]) <= {0, 1}]
                if not fitting:
                    lines, fitting = [("be", "z", (">", "sign", "0"))], ["z"]
                three.append(Program(signs, n, lines, fitting[seed % len(fitting)]))
            p, q, r = three
            self.assertEqual(p.then(q.then(r)), p.then(q).then(r))

    def test_three_programs_written_out(self):
        p = read(2, 2, "let a be - 1 sign", "tell a")
        q = read(2, 2, "let a table sign place : 2 0 1 2", "tell a")
        r = read(3, 2, "let b table sign : 7 8 9", "let c count where sign = sign", "tell b")
        due = read(2, 2, "let v0 be - 1 sign", "let v1 table v0 place : 2 0 1 2",
                   "let v2 table v1 : 7 8 9", "let v3 count where v1 = v1", "tell v2")
        self.assertEqual(p.then(q.then(r)), due)
        self.assertEqual(p.then(q).then(r), due)

    def test_places(self):
        p = read(2, 3, "let a be place", "tell a")
        for n in [1, 2, 4, 8]:
            q = read(4, n, "tell sign")
            self.raises("places", p.then, q)
            # Ahead of the other words.
            self.raises("places", read(2, 3, "tell place").then, q)
            self.raises("places", read(2, 3, "let a be -1", "tell a").then, q)
        self.assertEqual(p.then(read(3, 3, "tell sign")).told, "v0")

    def test_told(self):
        for signs in [2, 3, 5]:
            self.raises("told", read(2, 3, "tell place").then, read(signs, 3, "tell sign"))
            self.raises("told", read(2, 3, "let a be 1", "tell place").then, read(signs, 3, "tell sign"))
        full = [f"let a{at} be 0" for at in range(12)]
        self.raises("told", read(2, 8, *full, "tell place").then, read(2, 8, *full, "tell sign"))

    def test_range(self):
        q = read(3, 3, "let a be sign", "tell a")
        for values in ["0 3", "-1 0", "1/2 1", "3 3", "0 5/2"]:
            p = read(2, 3, f"let x table sign : {values}", "tell x")
            self.raises("range", p.then, q)
        for values in ["0 2", "1 1", "2 1", "0 1"]:
            p = read(2, 3, f"let x table sign : {values}", "tell x")
            self.assertEqual(len(p.then(q)), 2)
        self.raises("range", read(4, 3, "tell sign").then, q)
        self.assertEqual(len(read(3, 3, "tell sign").then(q)), 1)
        self.raises("range", read(2, 3, "let c count where sign = sign", "tell c").then, q)

    def test_many(self):
        def rows(many):
            return [f"let a{at} be 0" for at in range(many)]

        for many, more in [(12, 1), (1, 12), (7, 6), (12, 12), (8, 8)]:
            p, q = read(2, 3, *rows(many), "tell a0"), read(2, 3, *rows(more), "tell a0")
            with self.assertRaises(BadLine) as caught:
                p.then(q)
            self.assertEqual((caught.exception.line, caught.exception.why), (13, "many"))
            self.raises("range", read(2, 3, *rows(many - 1), "let x be 2", "tell x").then, q)
        for many, more in [(12, 0), (0, 12), (6, 6), (11, 1)]:
            p, q = read(2, 3, *rows(many), "tell sign"), read(2, 3, *rows(more), "tell sign")
            self.assertEqual(p.then(q).names(), [f"v{at}" for at in range(12)])


if __name__ == "__main__":
    unittest.main()
