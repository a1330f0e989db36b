"""Points [21] to [28] as far as they say what a program is made into, the fact of [27], and the
section lookingnets/making.py of the interface.
"""

import inspect
import random
import unittest
from fractions import Fraction

from lookingnets import making
from lookingnets.bills import Bill
from lookingnets.charts import Chart
from lookingnets.making import expression_units, made_map, made_net, peak_units
from lookingnets.nets import Net
from lookingnets.programs import Program
from tests import makely
from tests.growing import grown
from tests.makely import Made, chart_parts, parts_of
from tests.netly import LIKE_ME
from tests.plainly import pair

ONE = (1, 1)


def read(signs, n, *rows):
    """The program with some rows behind the first one."""
    return Program.read("".join(f"{row}\n" for row in (f"program {signs} {n}",) + rows))


class Interface(unittest.TestCase):
    def test_functions(self):
        for name, parameters in [
            ("expression_units", ["rows", "targets", "rest"]),
            ("peak_units", ["points", "scratch", "rest"]), ("made_net", ["program"]),
            ("made_map", ["program"]),
        ]:
            function = getattr(making, name)
            self.assertTrue(inspect.isfunction(function))
            self.assertEqual(function.__module__, "lookingnets.making")
            self.assertEqual(list(inspect.signature(function).parameters), parameters)
        self.assertEqual(expression_units(rest=1, targets=[5], rows=[(2,)]),
                         ((((1, (-1, 1)), (2, ONE)), (0, 1), ((5, ONE),)),))
        self.assertEqual(peak_units(rest=1, scratch=8, points=[(ONE, 9)])[0],
                         (((1, (-5, 1)), (8, ONE)), (0, 1), ((9, ONE),)))
        program = read(2, 1, "tell sign")
        self.assertIs(type(made_net(program=program)), Net)
        self.assertIs(type(made_map(program=program)), Chart)


class ExpressionUnits(unittest.TestCase):
    def test_written_out(self):
        for rows, targets, rest, due in [
            ([], [], 1, ()),
            ([()], [7], 1, ((((1, (-1, 1)),), ONE, ((7, ONE),)),)),
            ([(3,)], [7], 1, ((((1, (-1, 1)), (3, ONE)), (0, 1), ((7, ONE),)),)),
            ([(3, 9, 4)], [0], 5, (
                (((3, ONE), (4, ONE), (5, (-1, 1)), (9, ONE)), (-2, 1), ((0, ONE),)),)),
            # Tuples of unlike lengths, in their order; several rows may give to one column.
            ([(9, 2), (), (4, 3, 2, 6, 5), (8,)], [7, 7, 6, 9], 0, (
                (((0, (-1, 1)), (2, ONE), (9, ONE)), (-1, 1), ((7, ONE),)),
                (((0, (-1, 1)),), ONE, ((7, ONE),)),
                (((0, (-1, 1)), (2, ONE), (3, ONE), (4, ONE), (5, ONE), (6, ONE)), (-4, 1), ((6, ONE),)),
                (((0, (-1, 1)), (8, ONE)), (0, 1), ((9, ONE),)))),
            # In normal form: a column that stands twice, and one that is rest.
            ([(3, 3), (1, 4), (1,)], [7, 8, 9], 1, (
                (((1, (-1, 1)), (3, (2, 1))), (-1, 1), ((7, ONE),)),
                (((4, ONE),), (-1, 1), ((8, ONE),)), ((), (0, 1), ((9, ONE),)))),
        ]:
            for some in [rows, tuple(rows)]:
                found = expression_units(some, targets, rest)
                self.assertEqual(found, due)
                self.assertIs(type(found), tuple)
        self.assertEqual(expression_units([(3,)], (7,), 1), expression_units([(3,)], [7], 1))

    def test_arguments_stay(self):
        rows, targets = [(9, 2), ()], [7, 6]
        expression_units(rows, targets, 1)
        self.assertEqual((rows, targets), ([(9, 2), ()], [7, 6]))

    def test_counted(self):
        chance = random.Random(4)
        for _ in range(200):
            rows = [tuple(chance.randrange(9) for _ in range(chance.randint(0, 5)))
                    for _ in range(chance.randint(0, 6))]
            targets = [chance.randrange(9) for _ in rows]
            rest = chance.randrange(9)
            due = tuple(makely.unit([(column, 1) for column in row] + [(rest, -1)], 1 - len(row), [(target, 1)])
                        for row, target in zip(rows, targets))
            self.assertEqual(expression_units(rows, targets, rest), due)


class PeakUnits(unittest.TestCase):
    def test_one_point(self):
        # p_0 = -1/2, p_1 = 1/2, p_2 = 3/2, and G = 3 + 2.
        terms = ((1, (-5, 1)), (8, ONE))
        self.assertEqual(peak_units([((1, 2), 9)], 8, 1), (
            (terms, (1, 2), ((9, ONE),)), (terms, (-1, 2), ((9, (-2, 1)),)), (terms, (-3, 2), ((9, ONE),))))

    def test_two_points(self):
        # p = -1, 0, 1/3, 4/3, and G = 3 + 2, the whole part below 7/3.
        terms = ((1, (-5, 1)), (4, ONE))
        self.assertEqual(peak_units([((0, 1), 2), ((1, 3), 3)], 4, 1), (
            (terms, ONE, ((2, ONE),)), (terms, (0, 1), ((2, (-4, 1)), (3, (3, 1)))),
            (terms, (-1, 3), ((2, (3, 1)), (3, (-4, 1)))), (terms, (-4, 3), ((3, ONE),))))

    def test_one_column_for_several_points(self):
        # The column 5 belongs to 0, 1 and 2: what the unit of 1 gives to it adds up to nothing.
        terms = ((0, (-7, 1)), (6, ONE))
        found = peak_units([((0, 1), 5), ((1, 1), 5), ((2, 1), 5)], 6, 0)
        self.assertEqual(found, (
            (terms, ONE, ((5, ONE),)), (terms, (0, 1), ((5, (-1, 1)),)), (terms, (-1, 1), ()),
            (terms, (-2, 1), ((5, (-1, 1)),)), (terms, (-3, 1), ((5, ONE),))))
        # The column 5 belongs to 0 and 2, and 7 to 1.
        self.assertEqual([givings for _, _, givings in peak_units(
            [((0, 1), 5), ((1, 1), 7), ((2, 1), 5)], 6, 0)], [
                ((5, ONE),), ((5, (-2, 1)), (7, ONE)), ((5, (2, 1)), (7, (-2, 1))),
                ((5, (-2, 1)), (7, ONE)), ((5, ONE),)])

    def test_scratch_that_is_rest(self):
        self.assertEqual([terms for terms, _, _ in peak_units([((1, 2), 9)], 1, 1)], [((1, (-4, 1)),)] * 3)

    def test_tuples_and_arguments_that_stay(self):
        points = [((0, 1), 2), ((1, 3), 3)]
        found = peak_units(points, 4, 1)
        self.assertEqual(points, [((0, 1), 2), ((1, 3), 3)])
        self.assertEqual(peak_units(tuple(points), 4, 1), found)
        self.assertIs(type(found), tuple)

    def test_counted(self):
        chance = random.Random(5)
        for _ in range(200):
            xs = sorted({Fraction(chance.randint(-30, 30), chance.randint(1, 7))
                         for _ in range(chance.randint(1, 9))})
            points = [(x, chance.randrange(2, 9)) for x in xs]
            self.assertEqual(peak_units([(pair(x), column) for x, column in points], 9, 1),
                             makely.peaks(points, 9, 1))

    def test_the_fact(self):
        # At a scratch that is a point, its column gets 1, and the columns of other points get 0.
        chance = random.Random(6)
        for _ in range(50):
            xs = sorted({Fraction(chance.randint(-30, 30), chance.randint(1, 7)) for _ in range(6)})
            units = peak_units([(pair(x), at) for at, x in enumerate(xs)], 90, 91)
            for at, x in enumerate(xs):
                gifts = [Fraction(0)] * len(xs)
                for _, shift, givings in units:
                    for column, factor in givings:
                        gifts[column] += max(x + Fraction(*shift), 0) * Fraction(*factor)
                self.assertEqual(gifts, [int(at == other) for other in range(len(xs))])


# A be and a table without names, one with a name and one with two, and names that stand twice.
EXPRESSIONS = """program 2 1
let a be - 1 3
let b table : 1/2
let c be + sign sign
let d table c place : 5 -1/3
tell d
"""
EXPRESSIONS_NET = """net 2 1 11
rest 0:1 1:1
sign 0 0:1 2:1
sign 1 0:1 3:1
place 0 4:1
bend
unit 1 1:-1 > 5:1
unit 1 1:-1 > 6:1
unit 0 1:-1 2:1 > 7:1
unit 0 1:-1 3:1 > 8:1
bend
unit -1 1:-1 4:1 7:1 > 10:1
unit -1 1:-1 4:1 8:1 > 9:1
end
"""
EXPRESSIONS_CHART = """chart 0 1
name a 0 -2:5
name b 0 1/2:6
name c 0 0:7 2:8
name d 1 -1/3:9 5:10
name place -1 0:4
name sign -1 0:2 1:3
end
"""
# A first and a last with the same head but for the places; what they fall back on stands in the
# range of Y for the one, and does not for the other.
ENDS = """program 2 2
let f first sign where place = sign else 1
let l last sign where sign < place else -1
tell f
"""
ENDS_NET = """net 2 2 16
rest 0:1 1:1
sign 0 0:1 2:1
sign 1 0:1 3:1
place 0 4:1
place 1 5:1
heads
head 0,1:2 0,5:-1 2,4:4 3,5:4 > 6,2:1 7,1:1 7,3:1
head 0,4:-2 0,5:-1 5,2:4 > 10,1:1 11,2:1 12,3:1
bend
unit 0 1:-2 6:1 > 8:1
unit 0 1:-2 7:1 > 9:1
unit 0 1:-2 10:1 > 13:1
unit 0 1:-2 11:1 > 14:1
unit 0 1:-2 12:1 > 15:1
end
"""
ENDS_CHART = """chart 0 1
name f 1 0:8 1:9
name l 1 -1:13 0:14 1:15
name place -1 0:4 1:5
name sign -1 0:2 1:3
look f 0 0 6 7
look l 0 1 10 11 12
end
"""
# A mean whose range begins below 0, and which falls back on one of its means: the column of 0 is
# that of two points. y is -1 and 1, B is 2, and the means are -1, 0 and 1.
MEAN = """program 2 2
let y table sign : -1 1
let m mean y where place <= place else 0
tell m
"""
MEAN_NET = """net 2 2 12
rest 0:1 1:1
sign 0 0:1 2:1
sign 1 0:1 3:1
place 0 4:1
place 1 5:1
bend
unit 0 1:-1 2:1 > 6:1
unit 0 1:-1 3:1 > 7:1
heads
head 0,1:1 4,4:2 5,4:2 5,5:2 > 8,6:1 8,7:3
bend
unit 1 1:-8 8:1 > 10:1
unit 0 1:-8 8:1 > 9:1 10:-2
unit -1 1:-8 8:1 > 9:-2 10:2
unit -2 1:-8 8:1 > 9:1 10:-2 11:1
unit -3 1:-8 8:1 > 10:1 11:-2
unit -4 1:-8 8:1 > 11:1
end
"""
MEAN_CHART = """chart 0 1
name m 2 -1:9 0:10 1:11
name place -1 0:4 1:5
name sign -1 0:2 1:3
name y 0 -1:6 1:7
look m 1 0 8
end
"""
LIKE_ME_CHART = """chart 0 1
name c 1 0:9 1:10 2:11 3:12 4:13
name place -1 0:4 1:5 2:6 3:7
name sign -1 0:2 1:3
look c 0 0 8
end
"""
TURNED = read(2, 4, "let t be 1", "let len count where t = t", "let b be - - len 1 place",
              "let r first sign where place = b else 0", "tell r")


class WrittenOut(unittest.TestCase):
    def assert_made(self, program, net, chart):
        """Asserts the texts of the net and of the chart that are made from a program."""
        self.assertEqual(made_net(program).text(), net)
        self.assertEqual(made_map(program).text(), chart)
        self.assertEqual(made_net(program), Net.read(net))
        self.assertEqual(made_map(program), Chart.read(chart))

    def test_no_lines(self):
        for told in ["sign", "place"]:
            self.assert_made(
                read(3, 2, f"tell {told}"),
                "net 3 2 7\nrest 0:1 1:1\nsign 0 0:1 2:1\nsign 1 0:1 3:1\nsign 2 0:1 4:1\n"
                "place 0 5:1\nplace 1 6:1\nend\n",
                "chart 0 1\nname place -1 0:5 1:6\nname sign -1 0:2 1:3 2:4\nend\n")

    def test_expressions(self):
        self.assert_made(Program.read(EXPRESSIONS), EXPRESSIONS_NET, EXPRESSIONS_CHART)

    def test_first_and_last(self):
        self.assert_made(Program.read(ENDS), ENDS_NET, ENDS_CHART)

    def test_count(self):
        self.assert_made(read(2, 4, "let c count where sign = sign", "tell c"), LIKE_ME, LIKE_ME_CHART)

    def test_mean(self):
        self.assert_made(Program.read(MEAN), MEAN_NET, MEAN_CHART)

    def test_mean_of_one_value_alone(self):
        # The points 0 and 1 have one column, which is all that there is.
        program = read(2, 2, "let y be 5", "let m mean y where sign < sign else 5", "tell m")
        self.assertEqual(made_net(program).stages()[2], ("bend", (
            (((1, (-6, 1)), (7, ONE)), ONE, ((8, ONE),)), (((1, (-6, 1)), (7, ONE)), (0, 1), ((8, (-1, 1)),)),
            (((1, (-6, 1)), (7, ONE)), (-1, 1), ((8, (-1, 1)),)),
            (((1, (-6, 1)), (7, ONE)), (-2, 1), ((8, ONE),)))))

    def test_no_pairs(self):
        program = read(2, 1, "let f first sign where sign pairs sign else 0",
                       "let c count where sign pairs sign", "tell c")
        heads = made_net(program).stages()[0][1]
        self.assertEqual(heads[0][0], ((0, 1, ONE),))
        self.assertEqual(heads[1], (((0, 1, ONE),), ((9, 1, ONE),)))

    def test_what_is_told_changes_nothing(self):
        rows = ["let a be + sign 1", "let c count where a = sign"]
        nets = [made_net(read(2, 2, *rows, f"tell {told}")) for told in ("sign", "a", "c")]
        maps = [made_map(read(2, 2, *rows, f"tell {told}")) for told in ("sign", "a", "c")]
        self.assertEqual(nets, [nets[0]] * 3)
        self.assertEqual(maps, [maps[0]] * 3)


class Examples(unittest.TestCase):
    def test_how_many_are_like_me(self):
        program = read(2, 4, "let c count where sign = sign", "tell c")
        bill = Bill.of_net(made_net(program))
        self.assertEqual((bill.layers, bill.heads, bill.units, bill.bends, bill.width),
                         (1, 1, 7, (0, 1), 14))

    def test_turned_about(self):
        bill = Bill.of_net(made_net(TURNED))
        self.assertEqual((bill.layers, bill.heads, bill.bends), (2, 2, (1, 2, 1)))
        # t stands at 8, the scratch of len at 9, and that of r at 23 and 24, behind b with -4 to 3.
        self.assertEqual(made_map(TURNED).names(), (
            ("b", tuple(((x, 1), 19 + x) for x in range(-4, 4)), 3),
            ("len", tuple(((k, 1), 10 + k) for k in range(5)), 2),
            ("place", tuple(((u, 1), 4 + u) for u in range(4)), -1),
            ("r", (((0, 1), 25), ((1, 1), 26)), 5), ("sign", (((0, 1), 2), ((1, 1), 3)), -1),
            ("t", (((1, 1), 8),), 0)))
        self.assertEqual(made_map(TURNED).looks(), (("len", 1, 0, (9,)), ("r", 4, 0, (23, 24))))

    def test_a_mean(self):
        program = read(2, 4, "let m mean sign where place <= place else 0", "tell m")
        # 0, 1/4, 1/3, 1/2, 2/3, 3/4, 1: the points are these and 1, and 0 for none.
        self.assertEqual(made_map(program).columns("m"), tuple(
            (value, 9 + at) for at, value in enumerate(
                [(0, 1), (1, 4), (1, 3), (1, 2), (2, 3), (3, 4), (1, 1)])))
        head = made_net(program).stages()[0][1][0]
        self.assertEqual(head[1], ((8, 2, (1, 1)), (8, 3, (2, 1))))
        self.assertEqual(head[0], ((0, 1, (1, 1)),) + tuple(
            (4 + t, 4 + u, (2, 1)) for t in range(4) for u in range(t + 1)))
        self.assertEqual(len(made_net(program).stages()[1][1]), 10)


class Counted(unittest.TestCase):
    def test_programs_that_are_grown(self):
        kinds = set()
        for seed in range(150):
            chance = random.Random(seed)
            signs, n, many = chance.randint(2, 5), chance.randint(1, 8), chance.randint(0, 9)
            lines, told = grown(seed, signs, n, many)
            program = Program(signs, n, lines, told)
            due = Made(signs, n, lines)
            net, chart = made_net(program), made_map(program)
            self.assertEqual(parts_of(net), due.net(), seed)
            self.assertEqual(chart_parts(chart), due.chart(), seed)
            self.assertEqual(Bill.of_program(program), Bill.of_net(net))
            kinds |= {line[0] for line in lines}
        self.assertEqual(len(kinds), 6)

    def test_twelve_lines_of_twelve_layers(self):
        rows = ["let a0 count where sign = sign"] + [
            f"let a{at} count where a{at - 1} = a{at - 1}" for at in range(1, 12)]
        program = read(2, 1, *rows, "tell a11")
        self.assertEqual(parts_of(made_net(program)), Made(2, 1, program.lines()).net())
        self.assertEqual(made_net(program).layers, 12)
        self.assertEqual(len(made_net(program).stages()), 24)
        rows = ["let a0 be sign"] + [f"let a{at} be a{at - 1}" for at in range(1, 12)]
        program = read(2, 1, *rows, "tell a11")
        self.assertEqual(parts_of(made_net(program)), Made(2, 1, program.lines()).net())
        self.assertEqual([kind for kind, _ in made_net(program).stages()], ["bend"] * 12)


if __name__ == "__main__":
    unittest.main()
