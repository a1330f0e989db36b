"""Points [17] and [34]: joined fittings."""

import random
import unittest

from lookingnets.errors import BadChange, BadLine, TooMany
from lookingnets.fittings import Fitting, make
from lookingnets.programs import Program
from tests import changely, plainly
from tests.growing import grown
from tests.test_fittings import read, values_due

# A back with one, rest and all its columns in other places, with values of sign and place beyond the
# ranges, two columns that are not charted, and what is needed by nothing.
TURNED_BACK = """program 2 1
let c count where sign = sign
tell c
net 2 1 12
rest 4:1 8:5 9:1
sign 0 0:1 7:1 9:1
sign 1 8:3 9:1 11:1
place 0 5:1
bend
unit 1 8:1 > 7:2
heads
head 0,0:1 9,4:1 11,11:1 > 3,4:1
bend
unit 1/2 3:1 4:-5 > 10:1
unit -1/2 3:1 4:-5 > 6:2 10:-3
unit -1 3:1 4:-5 > 6:-3 10:2
unit -2 3:1 4:-5 > 6:1
end
chart 9 4
name c 2 0:6 1:10
name place -1 0:5 1/2:1
name sign -1 0:0 1:11 7:2
look c 1 0 3
end
"""
TURNED_JOINED = """program 2 1
let v0 count where sign = sign
tell v0
net 2 1 12
rest 0:1 1:1
sign 0 0:1 2:1
sign 1 0:1 3:1
place 0 4:1
bend
unit 1 10:1 > 9:2
heads
head 0,1:1 2,2:1 3,3:1 > 7,1:1
bend
unit 1/2 1:-5 7:1 > 11:1
unit -1/2 1:-5 7:1 > 8:2 11:-3
unit -1 1:-5 7:1 > 8:-3 11:2
unit -2 1:-5 7:1 > 8:1
end
chart 0 1
name place -1 0:4 1/2:6
name sign -1 0:2 1:3 7:5
name v0 2 0:8 1:11
look v0 1 0 7
end
"""
TABLE_JOINED = """program 2 2
let v0 be - 1 sign
let v1 table v0 : 5 6
tell v1
net 2 2 12
rest 0:1 1:1
sign 0 0:1 2:1
sign 1 0:1 3:1
place 0 4:1
place 1 5:1
bend
unit 0 1:-1 2:1 > 7:1
unit 0 1:-1 3:1 > 6:1
bend
unit 0 1:-1 6:1 > 9:1
unit 0 1:-1 7:1 > 10:1
unit 0 1:-1 8:1 > 11:1
end
chart 0 1
name place -1 0:4 1:5
name sign -1 0:2 1:3
name v0 0 0:6 1:7 2:8
name v1 1 5:9 6:10 7:11
end
"""


def wide(fitting, width, stages=0):
    """A fitting with a greater width, and with so many empty bends behind its stages."""
    text = fitting.net.text().replace(f" {fitting.net.width}\n", f" {width}\n", 1)
    text = text.removesuffix("end\n") + "bend\n" * stages + "end\n"
    return Fitting.read(fitting.program.text() + text + fitting.chart.text())


class WrittenOut(unittest.TestCase):
    def test_a_table(self):
        front = make(read(2, 2, "let a be - 1 sign", "tell a"))
        back = make(read(3, 2, "let c table sign : 5 6 7", "tell c"))
        texts = (front.text(), back.text())
        joined = front.then(back)
        self.assertIs(type(joined), Fitting)
        self.assertEqual(joined.text(), TABLE_JOINED)
        self.assertEqual((front.text(), back.text()), texts)

    def test_a_look_with_its_columns_in_other_places(self):
        joined = make(read(2, 1, "tell sign")).then(Fitting.read(TURNED_BACK))
        self.assertEqual(joined.text(), TURNED_JOINED)
        self.assertEqual(joined, Fitting.read(TURNED_JOINED))

    def test_in_front(self):
        # The front keeps its columns, its begin rows, and what it writes.
        joined = Fitting.read(TURNED_BACK.replace("tell c", "tell sign")).then(make(read(2, 1, "tell sign")))
        self.assertEqual(joined.text(), TURNED_BACK.replace("let c", "let v0").replace("tell c", "tell sign")
                         .replace("name c 2 0:6 1:10\n", "").replace("look c", "look v0")
                         .replace("7:2\nlook", "7:2\nname v0 2 0:6 1:10\nlook"))

    def test_nothing_told_by_the_back(self):
        front = make(read(2, 2, "let a be - 1 sign", "tell a"))
        for told, due in [("sign", "v0"), ("place", "place")]:
            joined = front.then(make(read(3, 2, f"tell {told}")))
            self.assertEqual(joined.program, read(2, 2, "let v0 be - 1 sign", f"tell {due}"))
            self.assertEqual(joined.net.width, 9)
            self.assertEqual(joined.net.stages(), front.net.stages())
            self.assertEqual(joined.chart.columns("v0"), (((0, 1), 6), ((1, 1), 7), ((2, 1), 8)))
        same = make(read(3, 2, "tell sign"))
        self.assertEqual(same.then(same), same)

    def test_first_sign_and_then_place(self):
        # The back's place has values that it never takes: the new columns for sign are ahead of theirs.
        text = make(read(3, 2, "tell sign")).text()
        back = text.replace("net 3 2 7", "net 3 2 9").replace("0:5 1:6", "-1:8 0:5 1:6 3/2:7")
        front = make(read(2, 2, "let a be 1", "tell a"))
        joined = front.then(Fitting.read(back))
        self.assertEqual(joined.chart.columns("v0"), (((0, 1), 7), ((1, 1), 6), ((2, 1), 8)))
        self.assertEqual(joined.chart.columns("place"), (((-1, 1), 9), ((0, 1), 4), ((1, 1), 5), ((3, 2), 10)))
        self.assertEqual(joined.chart.columns("sign"), (((0, 1), 2), ((1, 1), 3)))
        self.assertEqual(joined.net.width, 11)


class Counted(unittest.TestCase):
    def test_grown(self):
        joined = 0
        for seed in range(250):
            chance = random.Random(seed)
            n = chance.randint(1, 4)
            signs = chance.randint(2, 3)
            lines, _ = grown(seed, signs, n, chance.randint(0, 5))
            ranges = plainly.ranges_of(signs, n, lines)
            fit = [name for name in ranges if name != "place" and set(ranges[name]) <= {0, 1, 2, 3, 4}]
            if not fit:
                continue
            front = make(Program(signs, n, lines, chance.choice(fit)))
            more = 1 + max(int(x) for x in ranges[front.program.told])
            signs = chance.randint(max(2, more), 5)
            lines, told = grown(seed + 1000, signs, n, chance.randint(0, 5))
            back = make(Program(signs, n, lines, told))
            fitting = front.then(back)
            self.assertEqual(changely.bundle(fitting),
                             changely.joined(changely.bundle(front), changely.bundle(back)), seed)
            self.assertEqual(fitting.net.layers, front.net.layers + back.net.layers)
            self.assert_works(front, back, fitting, chance)
            joined += 1
        self.assertGreater(joined, 150)

    def assert_works(self, front, back, fitting, chance):
        """Asserts that a joined fitting bears the meaning of its program, and that it works with the
        text that the front tells.
        """
        text = [chance.randrange(front.program.signs) for _ in range(chance.randint(1, front.program.n))]
        between = [p for p, _ in values_due(front.program, text)[front.program.told]]
        due = values_due(back.program, between)
        self.assertEqual(fitting(text), due[back.program.told])
        found = fitting.value_rows(text)
        self.assertEqual(found, values_due(fitting.program, text))
        for name, new in zip(back.program.names(), fitting.program.names()[len(front.program):]):
            self.assertEqual(found[new], due[name])

    def test_three_fittings(self):
        p = make(read(2, 3, "let a be - 1 sign", "tell a"))
        q = make(read(2, 3, "let a table sign place : 2 0 1 2 1 0", "tell a"))
        r = make(read(3, 3, "let b count where sign = sign", "let c first place where sign < b else -1", "tell c"))
        one, other = p.then(q.then(r)), p.then(q).then(r)
        self.assertEqual(one.program, other.program)
        for text in plainly.texts(2, 3):
            self.assertEqual(one.value_rows(text), values_due(one.program, text))
            self.assertEqual(other.value_rows(text), one.value_rows(text))

    def test_joined_often(self):
        fitting = make(read(2, 2, "let a be - 1 sign", "tell a"))
        more = fitting
        for many in range(2, 13):
            more = more.then(fitting)
            self.assertEqual(more.program.names(), [f"v{at}" for at in range(many)])
            for text in plainly.texts(2, 2):
                due = [1 - sign if many % 2 else sign for sign in text]
                self.assertEqual(more(text), plainly.pairs(due))


class Wrong(unittest.TestCase):
    def raises(self, error, due, front, back):
        """Asserts that two fittings cannot be joined, with what the error tells."""
        with self.assertRaises(error) as caught:
            front.then(back)
        names = {BadChange: ["what"], BadLine: ["line", "why"], TooMany: ["what", "count"]}[error]
        self.assertEqual(tuple(getattr(caught.exception, name) for name in names), due)

    def test_places_told_and_range(self):
        back = make(read(2, 3, "tell sign"))
        for n in [1, 2, 4, 8]:
            for row in ["tell sign", "tell place"]:
                self.raises(BadChange, ("places",), make(read(3, n, row)), back)
        self.raises(BadChange, ("told",), make(read(3, 3, "tell place")), back)
        self.raises(BadChange, ("told",), make(read(2, 3, "tell place")), back)
        self.raises(BadChange, ("range",), make(read(3, 3, "tell sign")), back)
        for values in ["0 2", "-1 1", "1/2 0"]:
            self.raises(BadChange, ("range",), make(read(2, 3, f"let a table sign : {values}", "tell a")), back)
        self.assertEqual(make(read(2, 3, "tell sign")).then(back), back)

    def test_many(self):
        rows = [f"let a{at} be 0" for at in range(12)]
        full = make(read(2, 3, *rows, "tell a0"))
        for many in [1, 2, 12]:
            back = make(read(2, 3, *rows[:many], "tell a0"))
            self.raises(BadLine, (13, "many"), full, back)
        self.raises(BadChange, ("range",), make(read(2, 3, *rows[:-1], "let x be 2", "tell x")), full)
        # Ahead of what the net has too many of.
        self.raises(BadLine, (13, "many"), wide(full, 2000, 99), back)
        self.assertEqual(len(full.then(make(read(2, 3, "tell sign"))).program), 12)

    def test_width(self):
        front = make(read(2, 1, "tell sign"))
        # The back has 5 columns that are those of the front, and one more.
        back = make(read(2, 1, "let a be 1", "tell a"))
        self.assertEqual(wide(front, 1999).then(back).net.width, 2000)
        self.raises(TooMany, ("width", 2001), wide(front, 2000), back)
        self.raises(TooMany, ("width", 3995), wide(front, 2000), wide(front, 2000))
        self.assertEqual(wide(front, 2000).then(front).net.width, 2000)
        more = make(read(3, 1, "tell sign"))
        self.raises(TooMany, ("width", 2001), wide(front, 2000), more)
        # Ahead of the stages.
        self.raises(TooMany, ("width", 2001), wide(front, 2000, 100), wide(back, 6, 99))

    def test_stages(self):
        front = make(read(2, 1, "let a be sign", "tell a"))
        back = make(read(2, 1, "let a be 1", "let c count where a = sign", "tell c"))
        self.assertEqual(len(back.net.stages()), 3)
        joined = wide(front, 7, 96).then(back)
        self.assertEqual(len(joined.net.stages()), 100)
        self.assertEqual((joined.chart.stage("v2"), joined.chart.look("v2")[0]), (99, 98))
        self.raises(TooMany, ("stages", 101), wide(front, 7, 97), back)
        self.raises(TooMany, ("stages", 200), wide(front, 7, 99), wide(back, back.net.width, 97))
        self.assertEqual(len(wide(front, 7, 99).then(make(read(2, 1, "tell sign"))).net.stages()), 100)


if __name__ == "__main__":
    unittest.main()
