"""Point [27], and the section lookingnets/bills.py of the interface."""

import inspect
import itertools
import random
import unittest

from lookingnets.bills import Bill
from lookingnets.nets import Net
from lookingnets.programs import Program
from tests import plainly
from tests.growing import grown
from tests.kinds import any_values
from tests.netly import LIKE_ME, grown_net


def read(signs, n, *rows):
    """The program with some rows behind the first one."""
    return Program.read("".join(f"{row}\n" for row in (f"program {signs} {n}",) + rows))


def net_of(kinds, width=3):
    """A net with a stage for each pair of a kind and a number of heads or units."""
    parts = {"heads": ((), ()), "bend": ((), (0, 1), ())}
    return Net(2, 1, width, sign_rows=[[], []], place_rows=[[]],
               stages=[(kind, [parts[kind]] * many) for kind, many in kinds])


class Interface(unittest.TestCase):
    def test_class(self):
        self.assertEqual(Bill.__module__, "lookingnets.bills")
        self.assertEqual(list(inspect.signature(Bill.__init__).parameters),
                         ["self", "layers", "heads", "bends", "width", "units"])
        for name, parameter in [("of_program", "program"), ("of_net", "net")]:
            self.assertIsInstance(vars(Bill)[name], staticmethod)
            self.assertEqual(list(inspect.signature(getattr(Bill, name)).parameters), [parameter])
        for name in ["__eq__", "__repr__"]:
            self.assertIn(name, vars(Bill))
        self.assertIsInstance(vars(Bill)["layers"], property)

    def test_parameters_by_name(self):
        bill = Bill(units=5, width=4, bends=(3,), heads=2, layers=1)
        self.assertEqual((bill.layers, bill.heads, bill.bends, bill.width, bill.units), (1, 2, (3,), 4, 5))
        self.assertEqual(Bill.of_program(program=read(2, 1, "tell sign")).width, 5)
        self.assertEqual(Bill.of_net(net=net_of([])).width, 3)


class BillClass(unittest.TestCase):
    def assert_bill(self, bill, layers, heads, bends, width, units):
        """Asserts all that a bill tells."""
        self.assertIs(type(bill), Bill)
        self.assertEqual((bill.layers, bill.heads, bill.bends, bill.width, bill.units),
                         (layers, heads, bends, width, units))
        self.assertIs(type(bill.bends), tuple)
        self.assertEqual(repr(bill), f"Bill({layers} layers, {heads} heads, {units} units)")
        self.assertTrue(bill == Bill(layers, heads, bends, width, units))


class What(BillClass):
    def test_what_was_passed(self):
        for bends in [(0, 1), [0, 1], (), []]:
            self.assert_bill(Bill(1, 2, bends, 14, 7), 1, 2, tuple(bends), 14, 7)
        self.assertEqual(repr(Bill(1, 1, (0, 1), 14, 7)), "Bill(1 layers, 1 heads, 7 units)")
        self.assertEqual(repr(Bill(0, 20, (0,), 5, 3)), "Bill(0 layers, 20 heads, 3 units)")

    def test_bends_are_copied(self):
        bends = [0, 1]
        bill = Bill(1, 2, bends, 14, 7)
        bends.append(5)
        bends[0] = None
        self.assert_bill(bill, 1, 2, (0, 1), 14, 7)

    def test_equal(self):
        parts = (1, 2, (0, 1), 14, 7)
        self.assertTrue(Bill(*parts) == Bill(1, 2, [0, 1], 14, 7))
        self.assertFalse(Bill(*parts) != Bill(*parts))
        for at, other in [(0, 2), (1, 3), (2, (1, 0)), (2, (0,)), (2, (0, 1, 0)), (3, 13), (4, 8)]:
            changed = Bill(*(parts[:at] + (other,) + parts[at + 1:]))
            self.assertFalse(Bill(*parts) == changed)
            self.assertTrue(Bill(*parts) != changed)
        for other in any_values() + [parts, list(parts), net_of([]), read(2, 1, "tell sign")]:
            self.assertFalse(Bill(*parts) == other)
            self.assertTrue(Bill(*parts) != other)


class OfPrograms(BillClass):
    def test_examples(self):
        self.assert_bill(Bill.of_program(read(2, 4, "let c count where sign = sign", "tell c")),
                         1, 1, (0, 1), 14, 7)
        # 2, 2 and 4; then 1, 5 and 1 scratch column, 8, 2 and 2 scratch columns.
        self.assert_bill(Bill.of_program(read(
            2, 4, "let t be 1", "let len count where t = t", "let b be - - len 1 place",
            "let r first sign where place = b else 0", "tell r")),
            2, 2, (1, 2, 1), 27, 1 + 7 + 20 + 2)
        # The means of 0 and 1 are 0, 1/4, 1/3, 1/2, 2/3, 3/4 and 1.
        self.assert_bill(Bill.of_program(read(
            2, 4, "let m mean sign where place <= place else 0", "tell m")), 1, 1, (0, 1), 16, 10)

    def test_each_kind(self):
        for row, bends, width, units in [
            ("let a be 1", (1,), 1, 1), ("let a be sign", (1,), 3, 3), ("let a be + sign place", (1,), 4, 6),
            ("let a be + sign sign", (1,), 3, 3), ("let a table : 1/2", (1,), 1, 1),
            ("let a table sign : 0 0 1", (1,), 2, 3), ("let a table place sign : 0 0 0 0 0 7", (1,), 2, 6),
            ("let a count where sign < place", (0, 1), 4, 5), ("let a count where sign pairs sign", (0, 1), 4, 5),
            ("let a first sign where sign = sign else 0", (0, 1), 6, 3),
            ("let a last sign where sign = sign else 7", (0, 1), 8, 4),
            ("let a last place where sign = sign else -1", (0, 1), 6, 3),
            # The means of 0, 1 and 2 for two places are 0, 1/2, 1, 3/2 and 2.
            ("let a mean sign where sign = sign else 0", (0, 1), 6, 8),
            ("let a mean sign where sign = sign else 5", (0, 1), 7, 8),
            ("let a mean place where sign = sign else 1", (0, 1), 4, 6),
        ]:
            program = read(3, 2, row, "tell sign")
            layers = len(bends) - 1
            self.assert_bill(Bill.of_program(program), layers, layers, bends, 7 + width, units)

    def test_many_lines(self):
        program = read(
            3, 4, "let a be + sign 1", "let b table a place : 0 1 2 0 1 2 0 1 2 0 1 2",
            "let c count where a = b", "let d last c where place < sign else -1", "let e be + c + d 1",
            "let f be * 2 e", "let g mean sign where sign = sign else 0", "let h first g where f > c else 2",
            "let i table : 1/2", "let j be + i e", "tell h")
        self.assert_bill(
            Bill.of_program(program), 3, 4, (2, 1, 3, 1),
            9 + 3 + 3 + (5 + 1) + (6 + 6) + 10 + 10 + (13 + 1) + (13 + 13) + 1 + 10,
            3 + 12 + 7 + 6 + 30 + 10 + 16 + 13 + 1 + 10)

    def test_without_lines(self):
        for signs in range(2, 6):
            for n in range(1, 9):
                program = read(signs, n, "tell place")
                self.assert_bill(Bill.of_program(program), 0, 0, (0,), 2 + signs + n, 0)

    def test_counted(self):
        for seed in range(150):
            signs, n = 2 + seed % 4, 1 + seed % 8
            lines, told = grown(seed, signs, n, seed % 13)
            ranges = plainly.ranges_of(signs, n, lines)
            depths = [(plainly.layer(line[1], lines), plainly.step(line[1], lines)) for line in lines]
            layers = max([layer for layer, _ in depths], default=0)
            bends = tuple(max([step for other, step in depths if other == layer], default=0)
                          for layer in range(layers + 1))
            width, units, heads = 2 + signs + n, 0, 0
            for line in lines:
                many = len(ranges[line[1]])
                rows = len(list(itertools.product(*[ranges[name] for name in set(plainly.direct(
                    line[1], lines))])))
                means = len(plainly.all_means(ranges[line[2]], n)) if line[0] == "mean" else 0
                scratch = {"first": many, "last": many, "count": 1, "mean": 1}.get(line[0], 0)
                width += many + scratch
                heads += plainly.is_look(line[1], lines)
                units += {"be": rows, "table": rows, "first": many, "last": many, "count": n + 3,
                          "mean": means + 3}[line[0]]
            self.assert_bill(Bill.of_program(Program(signs, n, lines, told)), layers, heads, bends,
                             width, units)


class OfNets(BillClass):
    def test_the_example(self):
        self.assert_bill(Bill.of_net(Net.read(LIKE_ME)), 1, 1, (0, 1), 14, 7)

    def test_without_stages(self):
        for width in [1, 9, 2000]:
            self.assert_bill(Bill.of_net(net_of([], width)), 0, 0, (0,), width, 0)

    def test_stages_in_any_order(self):
        for kinds, layers, heads, bends, units in [
            ([("bend", 0)], 0, 0, (1,), 0), ([("heads", 0)], 1, 0, (0, 0), 0),
            ([("bend", 2), ("bend", 3)], 0, 0, (2,), 5), ([("heads", 2), ("heads", 3)], 2, 5, (0, 0, 0), 0),
            ([("heads", 1), ("bend", 4)], 1, 1, (0, 1), 4), ([("bend", 4), ("heads", 1)], 1, 1, (1, 0), 4),
            ([("bend", 1), ("bend", 0), ("heads", 3), ("bend", 2), ("heads", 0), ("heads", 1), ("bend", 1),
              ("bend", 5), ("bend", 0)], 3, 4, (2, 1, 0, 3), 9),
            ([("heads", 1)] * 50 + [("bend", 2)] * 50, 50, 50, (0,) * 50 + (50,), 100),
            ([("bend", 2), ("heads", 1)] * 50, 50, 50, (1,) * 50 + (0,), 100),
        ]:
            self.assert_bill(Bill.of_net(net_of(kinds)), layers, heads, bends, 3, units)

    def test_counted(self):
        chance = random.Random(5)
        for seed in range(100):
            parts = grown_net(seed)
            chance.shuffle(parts["stages"])
            letters = "".join(kind[0] for kind, _ in parts["stages"])
            many = {"heads": 0, "bend": 0}
            for kind, several in parts["stages"]:
                many[kind] += len(several)
            self.assert_bill(
                Bill.of_net(Net(**parts)), letters.count("h"), many["heads"],
                tuple(len(bends) for bends in letters.split("h")), parts["width"], many["bend"])


if __name__ == "__main__":
    unittest.main()
