"""Point [35], and the section lookingnets/reading.py of the interface."""

import inspect
import random
import unittest
from collections import Counter

from lookingnets import changes, reading
from lookingnets.errors import BadChange
from lookingnets.fittings import Fitting, make
from lookingnets.programs import Program
from lookingnets.reading import read_back
from tests import changely, plainly, readly
from tests.growing import grown
from tests.netly import LIKE_ME
from tests.test_changes import PRUNED, SHARED, tried_change
from tests.test_fittings import SMALL, WRITTEN, read, values_due
from tests.test_joined_fittings import TABLE_JOINED, TURNED_BACK, TURNED_JOINED
from tests.test_judging import LIKE, changed
from tests.test_making import LIKE_ME_CHART

# A first whose fall-back is given by y as well.
FIRST = """program 2 2
let y be 1
let f first sign where sign = sign else 1
tell f
net 2 2 11
rest 0:1 1:1
sign 0 0:1 2:1
sign 1 0:1 3:1
place 0 4:1
place 1 5:1
bend
unit 1 1:-1 > 6:1
heads
head 0,1:2 0,5:-1 2,2:4 3,3:4 > 7,2:1 8,1:1 8,3:1
bend
unit 0 1:-2 7:1 > 9:1
unit 0 1:-2 8:1 > 10:1
end
chart 0 1
name f 2 0:9 1:10
name place -1 0:4 1:5
name sign -1 0:2 1:3
name y 0 1:6
look f 1 0 7 8
end
"""
# Names that are 5 or 0 alone, ahead of a look and behind it, whose head gives 5 without reading a name.
GIVES_FIVE = """program 2 1
let m be 5
let b be 5
let p be 0
let y be 5
let f first y where sign = sign else 0
let a be 5
tell f
net 2 1 13
rest 0:1 1:1
sign 0 0:1 2:1
sign 1 0:1 3:1
place 0 4:1
bend
unit 1 1:-1 > 5:1
bend
unit 1 1:-1 > 6:1 7:1 8:1
heads
head 0,1:1 2,2:2 3,3:2 > 9,0:1 9,1:-1
bend
unit 0 1:-1 9:1 > 10:1
unit 1 1:-1 9:-1 > 11:1
unit 1 1:-1 > 12:1
end
chart 0 1
name a 3 5:12
name b 1 5:6
name f 3 0:11 5:10
name m 0 5:5
name p 1 0:8
name place -1 0:4
name sign -1 0:2 1:3
name y 1 5:7
look f 2 0 9
end
"""


class Reading(unittest.TestCase):
    def reads(self, fitting, signs, n, *rows):
        """Asserts the lines of the program that is read back from a fitting, and that it means the same."""
        text = fitting.text()
        found = read_back(fitting)
        self.assertIs(type(found), Program)
        self.assertEqual(found.text(), read(signs, n, *rows).text())
        self.assertEqual(fitting.text(), text)
        self.means_the_same(fitting, found, plainly.texts(signs, n)[-40:])

    def means_the_same(self, fitting, found, texts):
        """Asserts that a program has the values of a fitting's names at some texts, and that it is
        what is read back when it is made.
        """
        self.assertEqual(sorted(found.names()), sorted(fitting.program.names()))
        for text in texts:
            self.assertEqual(values_due(found, text), values_due(fitting.program, text))
        self.assertEqual(read_back(make(found)), found)


class Interface(unittest.TestCase):
    def test_function(self):
        self.assertTrue(inspect.isfunction(reading.read_back))
        self.assertEqual(read_back.__module__, "lookingnets.reading")
        self.assertEqual(list(inspect.signature(read_back).parameters), ["fitting"])
        self.assertEqual(read_back(fitting=make(read(2, 1, "tell place"))), read(2, 1, "tell place"))


class WrittenOut(Reading):
    def test_expressions(self):
        self.reads(Fitting.read("".join(WRITTEN[0])), 2, 1, "let a table : -2", "let b table : 1/2",
                   "let c table sign : 0 2", "let d table place c : 5 -1/3", "tell d")

    def test_first_and_last(self):
        self.reads(Fitting.read("".join(WRITTEN[1])), 2, 2, "let f first sign where place pairs sign 0:0 1:1 else 1",
                   "let l last sign where sign pairs place 0:1 else -1", "tell f")
        self.reads(make(read(2, 3, "let f first place where sign >= sign else -1", "tell f")), 2, 3,
                   "let f first place where sign pairs sign 0:0 1:0 1:1 else -1", "tell f")

    def test_count(self):
        self.reads(Fitting.read("".join(WRITTEN[2])), 2, 4, "let c count where sign pairs sign 0:0 1:1", "tell c")
        self.reads(make(read(3, 1, "let c count where sign /= place", "tell c")), 3, 1,
                   "let c count where sign pairs place 1:0 2:0", "tell c")

    def test_mean(self):
        self.reads(Fitting.read("".join(WRITTEN[3])), 2, 2, "let y table sign : -1 1",
                   "let m mean y where place pairs place 0:0 0:1 1:1 else 0", "tell m")

    def test_by_hand(self):
        self.reads(Fitting.read("".join(WRITTEN[4])), 2, 3, "let t table sign : 1 3",
                   "let f first t where place pairs place 0:0 1:1 2:2 else 0", "tell f")

    def test_no_lines(self):
        for told in ["sign", "place"]:
            self.reads(make(read(3, 2, f"tell {told}")), 3, 2, f"tell {told}")

    def test_what_is_told(self):
        for told in ["sign", "place", "a", "b"]:
            self.reads(make(read(2, 1, "let a be sign", "let b be 1", f"tell {told}")), 2, 1,
                       "let a table sign : 0 1", "let b table : 1", f"tell {told}")

    def test_last_and_mean_where_one_place_at_most_is_found(self):
        for kind in ["first", "last", "mean"]:
            self.reads(make(read(2, 3, f"let f {kind} sign where place = place else 7", "tell f")), 2, 3,
                       "let f first sign where place pairs place 0:0 1:1 2:2 else 7", "tell f")
            # From each place one other is found, whatever stands there.
            self.reads(make(read(2, 2, "let b be - 1 place", f"let f {kind} sign where place = b else 7", "tell f")),
                       2, 2, "let b table place : 1 0", "let f first sign where place pairs b 0:0 1:1 else 7", "tell f")
            self.reads(make(read(2, 1, f"let f {kind} sign where sign < sign else 7", "tell f")), 2, 1,
                       "let f first sign where sign pairs sign 0:1 else 7", "tell f")
        self.reads(make(read(2, 2, "let f last sign where place <= place else 7", "tell f")), 2, 2,
                   "let f last sign where place pairs place 0:0 0:1 1:1 else 7", "tell f")
        self.reads(make(read(2, 2, "let f mean sign where place <= place else 7", "tell f")), 2, 2,
                   "let f mean sign where place pairs place 0:0 0:1 1:1 else 7", "tell f")

    def test_looks_that_find_nothing(self):
        self.reads(make(read(2, 2, "let f first sign where sign pairs place else 3",
                             "let g last sign where sign > sign else 1", "let h mean sign where place pairs place else -2",
                             "let c count where place pairs sign", "let d be + c f", "tell d")), 2, 2,
                   "let c table : 0", "let f table : 3", "let h table : -2", "let d table c f : 3",
                   "let g last sign where sign pairs sign 1:0 else 1", "tell d")

    def test_ranges_that_become_smaller(self):
        # c is always 0, so f finds something only where the sign is 0, and t has two rows of values.
        self.reads(make(read(2, 3, "let c count where sign pairs sign", "let f first place where sign = c else -1",
                             "let t table c sign : 1 2 3 4 5 6 7 8", "tell f")), 2, 3,
                   "let c table : 0", "let t table sign c : 1 2",
                   "let f first place where sign pairs c 0:0 else -1", "tell f")


class Heads(Reading):
    def count(self, scores, pairs, due):
        """Asserts what is read for a count with some scores in the net of the first example."""
        program = changed(LIKE, ("sign = sign", pairs))
        fitting = Fitting.read(program + changed(LIKE_ME, ("0,1:1 2,2:1 3,3:1", scores)) + LIKE_ME_CHART)
        self.reads(fitting, 2, 4, f"let c {due}", "tell c")

    def test_no_q(self):
        for program in ["sign pairs sign 1:0 1:1", "sign pairs place 1:0 1:1 1:2 1:3"]:
            self.count("0,1:1 0,3:1", program, "count where sign pairs sign 1:0 1:1")

    def test_no_k(self):
        due = "count where place pairs sign 0:0 1:0 2:0 3:0"
        for program in ["sign pairs sign 0:0 1:0", "place pairs sign 0:0 1:0 2:0 3:0"]:
            self.count("3,1:1", program, due)
        # Scores with one there read no K.
        self.count("3,0:5 3,1:1", "sign pairs sign 0:0 1:0", due)

    def test_neither(self):
        # All is found from everywhere, for any K and any Q.
        due = "count where place pairs sign " + " ".join(f"{u}:{s}" for u in range(4) for s in range(2))
        for key, query, many, more in [("sign", "place", 2, 4), ("place", "sign", 4, 2)]:
            every = " ".join(f"{a}:{b}" for a in range(many) for b in range(more))
            fitting = Fitting.read(changed(LIKE, ("sign = sign", f"{key} pairs {query} {every}")) + changed(
                LIKE_ME, ("head 0,1:1 2,2:1 3,3:1 >", "head >")) + LIKE_ME_CHART)
            self.reads(fitting, 2, 4, f"let c {due}", "tell c")

    def test_columns_that_say_nothing(self):
        # A score that only the resting place asks for makes sign K all the same.
        self.count("0,1:1 0,3:1 1,2:7", "sign pairs sign 1:0 1:1", "count where sign pairs sign 1:0 1:1")
        self.count("1,2:7 3,1:1", "sign pairs sign 0:0 1:0", "count where sign pairs sign 0:0 1:0")

    def test_places_for_a_first_that_finds_all(self):
        scores = "0,1:2 0,5:-1 2,2:4 3,3:4"
        every = "0:0 0:1 1:0 1:1"
        program = changed(FIRST, ("sign = sign", f"sign pairs sign {every}"))
        fitting = Fitting.read(changed(program, (scores, "0,4:2 0,5:1")))
        self.reads(fitting, 2, 2, "let y table : 1", f"let f first sign where place pairs sign {every} else 1", "tell f")
        fitting = Fitting.read(changed(program, (scores, "0,4:1 0,5:2"), ("f first", "f last")))
        self.reads(fitting, 2, 2, "let y table : 1", f"let f last sign where place pairs sign {every} else 1", "tell f")
        # Columns of sign read as there make it K again.
        fitting = Fitting.read(changed(program, (scores, "0,2:3 0,3:3 0,5:-1")))
        self.reads(fitting, 2, 2, "let y table : 1", f"let f first sign where sign pairs sign {every} else 1", "tell f")

    def test_no_y(self):
        # f gives 5 from one alone: m, b and y stand ahead of the look; a has 5 too, and stands behind.
        # b is the first of them by name.
        fitting = Fitting.read(GIVES_FIVE)
        due = ["let a table : 5", "let b table : 5", "let m table : 5", "let p table : 0", "let y table : 5",
               "let f first b where sign pairs sign 0:0 1:1 else 0", "tell f"]
        self.reads(fitting, 2, 1, *due)
        # The names' order counts, and not that of the stages or the lines.
        text = GIVES_FIVE.replace("let b be", "let z be").replace("name b 1 5:6\n", "").replace(
            "name y 1 5:7\n", "name y 1 5:7\nname z 1 5:6\n")
        due[1:2] = []
        due[3:4] = ["let y table : 5", "let z table : 5"]
        due[5] = due[5].replace("first b", "first m")
        self.reads(Fitting.read(text), 2, 1, *due)

    def test_no_y_and_given_names(self):
        # What is given is 0: place has n 1 and is 0 alone, and its name is ahead of that of z.
        text = changed(GIVES_FIVE, ("let p be 0", "let z be 0"), ("name p 1 0:8\n", ""),
                       ("name y 1 5:7\n", "name y 1 5:7\nname z 1 0:8\n"), ("first y", "first z"),
                       ("else 0", "else 5"), ("9,0:1 9,1:-1", "9,1:1"))
        rows = ["let a table : 5", "let b table : 5", "let m table : 5", "let y table : 5", "let z table : 0",
                "let f first place where sign pairs sign 0:0 1:1 else 5", "tell f"]
        self.reads(Fitting.read(text), 2, 1, *rows)
        # The name o is ahead of place.
        text = changed(GIVES_FIVE, ("let p be 0", "let o be 0"), ("name p 1 0:8", "name o 1 0:8"),
                       ("first y", "first o"), ("else 0", "else 5"), ("9,0:1 9,1:-1", "9,1:1"))
        rows[3:6] = ["let o table : 0", "let y table : 5", rows[5].replace("first place", "first o")]
        self.reads(Fitting.read(text), 2, 1, *rows)

    def test_y_that_is_read(self):
        # Y is read from one of its columns alone; those of others do not count, though they have 5.
        text = changed(GIVES_FIVE, ("9,0:1 9,1:-1", "9,7:1"))
        self.assertEqual(read_back(Fitting.read(text)).line_of("f")[2], "y")


class Charts(Reading):
    def test_units_that_serve_several_names(self):
        self.reads(SHARED, 2, 1, "let a table sign : 0 1", "let b table sign : 1 0", "let c table : 4",
                   "let d table c : 4", "tell d")

    def test_a_head_for_two_looks(self):
        look = "first y where sign pairs sign 0:0 1:1 else 5"
        self.reads(Fitting.read(PRUNED), 2, 1, "let h table sign : 0 2", "let y table : 5", "let k table h : 0 2",
                   f"let f {look}", f"let g {look}", "tell f")

    def test_values_beyond_ranges(self):
        self.reads(Fitting.read(TABLE_JOINED), 2, 2, "let v0 table sign : 1 0", "let v1 table v0 : 5 6", "tell v1")
        self.reads(Fitting.read(TURNED_BACK), 2, 1, "let c count where sign pairs sign 0:0 1:1", "tell c")
        self.reads(Fitting.read(TURNED_JOINED), 2, 1, "let v0 count where sign pairs sign 0:0 1:1", "tell v0")
        # Only a column that is never held is read: that is no reading, and d has no names.
        text = changed(SHARED.text(), ("net 2 1 11", "net 2 1 12"), ("name c 0 4:9", "name c 0 4:9 7:11"),
                       ("unit 0 1:-1 9:1 > 10:1", "unit 1 1:-1 11:3 > 10:1"))
        self.reads(Fitting.read(text), 2, 1, "let a table sign : 0 1", "let b table sign : 1 0", "let c table : 4",
                   "let d table : 4", "tell d")
        # So it is for scores: K is sign, and Q is place, for values that are never there.
        text = changed(LIKE + LIKE_ME + LIKE_ME_CHART, ("2 4 14", "2 4 15"), ("1:3", "1:3 2:14"), (
            "sign = sign", "sign pairs sign 0:0 1:0"), ("0,1:1 2,2:1 3,3:1", "2,14:9 3,1:1 14,14:7"))
        due = "let c count where place pairs sign 0:0 1:0 2:0 3:0"
        self.reads(Fitting.read(text), 2, 4, due, "tell c")
        text = changed(LIKE + LIKE_ME + LIKE_ME_CHART, ("2 4 14", "2 4 15"), ("3:7", "3:7 5:14"), (
            "sign = sign", "sign pairs place 1:0 1:1 1:2 1:3"), ("0,1:1 2,2:1 3,3:1", "0,1:1 0,3:1 14,3:5"))
        self.reads(Fitting.read(text), 2, 4, "let c count where sign pairs sign 1:0 1:1", "tell c")
        # And for givings: y is read at a value that it never has.
        text = changed(FIRST, ("2 2 11", "2 2 12"), ("1:6", "1:6 5:11"), ("first sign", "first y"),
                       ("7,2:1 8,1:1 8,3:1", "8,0:1 8,11:4"))
        self.reads(Fitting.read(text), 2, 2, "let y table : 1", "let f first y where sign pairs sign 0:0 1:1 else 1",
                   "tell f")

    def test_the_order_of_lines_and_of_names_of_tables(self):
        fitting = make(read(
            2, 2, "let z be sign", "let a count where z = sign", "let y table z place : 0 1 2 3",
            "let b table a place z : " + " ".join(str(at) for at in range(12)), "let x be 1",
            "let c first x where a = x else 0", "let d table c y sign : " + " ".join(str(at) for at in range(16)),
            "let e table y x : 3 2 1 0", "tell d"))
        self.reads(
            fitting, 2, 2, "let x table : 1", "let z table sign : 0 1", "let y table place z : 0 2 1 3",
            "let e table x y : 3 2 1 0", "let a count where z pairs sign 0:0 1:1",
            "let b table place z a : 0 4 8 1 5 9 2 6 10 3 7 11", "let c first x where a pairs x 1:1 else 0",
            "let d table sign y c : 0 8 2 10 4 12 6 14 1 9 3 11 5 13 7 15", "tell d")

    def test_stages_are_not_depths(self):
        # a is parted from b, and c stands later; what is read has the depths of its lines.
        fitting = make(read(2, 1, "let a be 1", "let b be sign", "let c be 0", "let d be b", "tell d"))
        fitting = changes.later(changes.parted(fitting, 0, ["a"]), "c")
        self.reads(fitting, 2, 1, "let a table : 1", "let b table sign : 0 1", "let c table : 0",
                   "let d table b : 0 1", "tell d")


class Counted(Reading):
    def test_each_kind_of_line(self):
        for signs, n, rows in SMALL:
            fitting = make(read(signs, n, *rows))
            found = read_back(fitting)
            self.assertEqual(found.lines(), readly.read_back(changely.bundle(fitting)))
            self.means_the_same(fitting, found, plainly.texts(signs, n))

    def test_grown(self):
        kinds = Counter()
        for seed in range(120):
            chance = random.Random(seed)
            signs, n = chance.randint(2, 4), chance.randint(1, 5)
            lines, told = grown(seed + 700, signs, n, chance.randint(0, 8))
            fitting = make(Program(signs, n, lines, told))
            found = read_back(fitting)
            self.assertEqual((found.signs, found.n, found.told), (signs, n, told))
            self.assertEqual(found.lines(), readly.read_back(changely.bundle(fitting)), seed)
            texts = [[chance.randrange(signs) for _ in range(length)] for length in (1, n)]
            self.means_the_same(fitting, found, texts)
            kinds.update(line[0] for line in found.lines())
        self.assertEqual(sorted(kinds), ["count", "first", "last", "mean", "table"])

    def test_behind_rows_of_changes(self):
        for seed in range(50):
            chance = random.Random(seed)
            signs, n = chance.randint(2, 3), chance.randint(1, 4)
            fitting = make(Program(signs, n, *grown(seed + 4000, signs, n, chance.randint(1, 5))))
            if seed % 2:
                front = make(read(2, n, "let q be - 1 sign", "tell q"))
                fitting = front.then(fitting)
            for _ in range(8):
                kind, values = tried_change(chance, fitting)
                try:
                    fitting = getattr(changes, kind)(fitting, *values)
                except BadChange:
                    continue
                self.assertEqual(read_back(fitting).lines(), readly.read_back(changely.bundle(fitting)), seed)
            signs, n = fitting.program.signs, fitting.program.n
            self.means_the_same(fitting, read_back(fitting), plainly.texts(signs, n)[-5:])


if __name__ == "__main__":
    unittest.main()
