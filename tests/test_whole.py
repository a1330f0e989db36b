"""Points [1] and [39]: the facts over the whole program, and the examples that are computed by hand."""

import importlib
import itertools
import pkgutil
import random
import unittest
from fractions import Fraction

import lookingnets
from lookingnets.bench import Bench
from lookingnets.bills import Bill
from lookingnets.changes import moved, pruned, scaled, shortened
from lookingnets.charts import Chart
from lookingnets.comparing import alike, all_texts, first_difference
from lookingnets.errors import BadChart, Broken
from lookingnets.fittings import Fitting, make
from lookingnets.judging import judge
from lookingnets.making import made_map, made_net
from lookingnets.nets import Net
from lookingnets.plain import found_places, next_sign, plain_values
from lookingnets.programs import Program, longest_chain
from lookingnets.reading import read_back
from lookingnets.running import looked_at, run_stages, scores
from lookingnets.writing import Writer, write
from tests import netly, plainly
from tests.growing import grown
from tests.judgely import changed_chart, changed_net, reordered
from tests.makely import Made, chart_parts, parts_of
from tests.test_fittings import values_due

LIKE_ME = "program 2 4\nlet c count where sign = sign\ntell c\n"
TURNED = """program 2 4
let t be 1
let len count where t = t
let b be - - len 1 place
let r first sign where place = b else 0
tell r
"""
MEAN = "program 2 4\nlet m mean sign where place <= place else 0\ntell m\n"
MODULES = ("errors values expressions lines ranges programs plain comparing nets running bills charts making "
           "judging fittings changes reading writing bench").split()


def whole(*numbers):
    """The tuple of whole fractions."""
    return tuple((number, 1) for number in numbers)


class ThePackage(unittest.TestCase):
    def test_modules(self):
        found = [module.name for module in pkgutil.iter_modules(lookingnets.__path__)]
        self.assertLessEqual(set(MODULES), set(found))
        for name in found:
            importlib.import_module(f"lookingnets.{name}")


class HowManyAreLikeMe(unittest.TestCase):
    def test_what_it_tells(self):
        program = Program.read(LIKE_ME)
        fitting = make(program)
        for told in [program([0, 1, 0]), fitting([0, 1, 0]), plain_values(program, [0, 1, 0])["c"]]:
            self.assertEqual(told, whole(2, 1, 2))

    def test_its_sizes(self):
        program = Program.read(LIKE_ME)
        for bill in [Bill.of_program(program), Bill.of_net(made_net(program))]:
            self.assertEqual((bill.layers, bill.heads, bill.units, bill.bends, bill.width), (1, 1, 7, (0, 1), 14))

    def test_inside(self):
        net = made_net(Program.read(LIKE_ME))
        begin, behind, end = list(run_stages(net, [0, 1, 0]))
        head = net.stages()[0][1][0]
        # The resting place has the index 0, and the place 0 the index 1.
        self.assertEqual(scores(begin, head, 1), [(1, 1), (1, 1), (0, 1), (1, 1)])
        self.assertEqual(looked_at(begin, head, 1), [0, 1, 3])
        self.assertEqual(behind[1][8], (1, 3))
        self.assertEqual(behind[1][9:], ((0, 1),) * 5)
        self.assertEqual(end[1][9:], ((0, 1), (0, 1), (1, 1), (0, 1), (0, 1)))
        self.assertEqual(dict((column, value) for value, column in made_map(
            Program.read(LIKE_ME)).columns("c"))[11], (2, 1))

    def test_half_the_giving(self):
        fitting = make(Program.read(LIKE_ME))
        stages = list(fitting.net.stages())
        head_scores, givings = stages[0][1][0]
        stages[0] = ("heads", [(head_scores, [givings[0][:2] + ((1, 2),)])])
        net = fitting.net.with_stages(stages)
        self.assertEqual(judge(fitting.program, net, fitting.chart), (1, "values"))
        with self.assertRaises(Broken) as caught:
            Fitting(fitting.program, net, fitting.chart)
        self.assertEqual((caught.exception.line, caught.exception.word), (1, "values"))


class TurnedAbout(unittest.TestCase):
    def test_what_it_tells(self):
        program = Program.read(TURNED)
        self.assertEqual(program([0, 0, 1]), whole(1, 0, 0))
        self.assertEqual(make(program)([0, 0, 1]), whole(1, 0, 0))
        fitting = make(program)
        for text in plainly.texts(2, 4):
            self.assertEqual(fitting(text), whole(*reversed(text)))

    def test_depths_and_bill(self):
        program = Program.read(TURNED)
        self.assertEqual([program.depth(name) for name in ("t", "len", "b", "r")], [(0, 1), (1, 1), (1, 2), (2, 1)])
        for bill in [Bill.of_program(program), Bill.of_net(make(program).net)]:
            self.assertEqual((bill.layers, bill.heads, bill.bends), (2, 2, (1, 2, 1)))
        self.assertEqual(longest_chain(program), ["len", "r"])


class AMean(unittest.TestCase):
    def test_what_it_tells(self):
        program = Program.read(MEAN)
        due = ((1, 1), (1, 2), (1, 3), (1, 2))
        self.assertEqual(program([1, 0, 0, 1]), due)
        self.assertEqual(make(program)([1, 0, 0, 1]), due)
        fitting = make(program)
        for text in plainly.texts(2, 4):
            self.assertEqual(fitting(text), plainly.pairs(
                Fraction(sum(text[:many]), many) for many in range(1, len(text) + 1)))


class Facts(unittest.TestCase):
    def test_whoever_made_the_net_and_the_chart(self):
        # Nets and charts are changed by chance; those that the judge accepts bear the meaning.
        accepted = 0
        for seed in range(250):
            chance = random.Random(seed + 9000)
            signs, n = chance.randint(2, 3), chance.randint(1, 3)
            lines, told = grown(seed + 9000, signs, n, chance.randint(1, 3))
            program, made = Program(signs, n, lines, told), Made(signs, n, lines)
            net, chart = made.net(), made.chart()
            for _ in range(6):
                deed = chance.random()
                new_net, new_chart = net, chart
                if deed < 0.8:
                    new_net = changed_net(chance, net)
                elif deed < 0.9:
                    new_chart = changed_chart(chance, chart, net["width"])
                else:
                    new_net, new_chart = reordered(chance, net, chart)
                try:
                    fitting = Fitting(program, Net(**new_net), Chart(**new_chart))
                except (BadChart, Broken):
                    continue
                # The next change goes on from what is accepted.
                net, chart = parts_of(fitting.net), chart_parts(fitting.chart)
                self.assert_bears(fitting, chance)
                accepted += 1
        self.assertGreater(accepted, 150)

    def assert_bears(self, fitting, chance):
        """Asserts that a fitting bears its meaning, behind the stage of each entry and at the end, at
        the places and at the resting place; the net is run in another way.
        """
        text = [chance.randrange(fitting.program.signs) for _ in range(chance.randint(1, fitting.program.n))]
        due = values_due(fitting.program, text)
        self.assertEqual(fitting.value_rows(text), due)
        stages = netly.all_rows(parts_of(fitting.net), text)
        for name, pairs, stage in fitting.chart.names():
            for rows in stages[stage + 1:]:
                for value, column in pairs:
                    self.assertEqual(rows[0][column], 0)
                    for place in range(len(text)):
                        self.assertEqual(rows[place + 1][column], int(due[name][place] == value))

    def test_what_is_made_bears_the_meaning_at_all_texts(self):
        for seed in range(40):
            signs, n = 2 + seed % 2, 1 + seed % 3
            lines, told = grown(seed + 600, signs, n, 1 + seed % 7)
            fitting = make(Program(signs, n, lines, told))
            for text in all_texts(signs, n):
                self.assertEqual(fitting.value_rows(text), values_due(fitting.program, text))

    def test_layers_and_sizes(self):
        for seed in range(60):
            lines, told = grown(seed + 800, 2, 3, seed % 10)
            program = Program(2, 3, lines, told)
            net = made_net(program)
            layers = max([plainly.layer(line[1], lines) for line in lines], default=0)
            self.assertEqual((net.layers, len(longest_chain(program)), program.layers), (layers,) * 3)
            self.assertEqual(Bill.of_program(program), Bill.of_net(net))
            self.assertEqual(Bill.of_net(net).width, Made(2, 3, lines).width)

    def test_from_the_net_and_the_chart_alone(self):
        for seed in range(40):
            lines, told = grown(seed + 400, 2, 3, 1 + seed % 7)
            program = Program(2, 3, lines, told)
            self.assertTrue(alike(read_back(make(program)), program))
            self.assertIsNone(first_difference(program, read_back(make(program))))


class AStory(unittest.TestCase):
    """A program that is read from its text, put on a bench, and led through all that there is."""

    def told(self, text):
        """What the third fitting tells, counted by hand: the text turned about, and of this, for each
        sign, how many are like it.
        """
        return [list(text).count(sign) for sign in reversed(text)]

    def test_the_whole(self):
        turned, like_me = Program.read(TURNED), Program.read(LIKE_ME)
        bench = Bench()
        bench.do(("put", "turn", turned), ("put", "like", like_me))
        bench.do(("copy", "twice", "turn"), ("join", "both", "turn", "like"))
        # turn: 8 columns, 1 for t, 1 and 5 for len, 8 for b, 2 and 2 for r; 1, 7, 20 and 2 units. Of the
        # 14 columns of like, 8 are those of turn's r and places, one and rest.
        self.assertEqual(bench.report(), [
            "both 3 3 37 33", "like 1 1 7 14", "turn 2 2 30 27", "twice 2 2 30 27"])
        both = bench.kept("both")
        self.assertEqual(both.program.names(), ["v0", "v1", "v2", "v3", "v4"])
        for text in plainly.texts(2, 4):
            self.assertEqual(both(text), whole(*self.told(text)))
        self.change(bench)
        self.undo(bench)
        self.read_back_and_write(bench)

    def change(self, bench):
        """Changes the joined fitting, and what is turned twice."""
        width = bench.kept("both").net.width
        scratch = bench.kept("both").chart.look("v4")[2][0]
        bench.do(("scaled", "both", scratch, (3, 7)), ("lifted", "both", 6, 0, (1, 2)), ("shifted", "both", 6, 0, (-4, 1)),
                 ("moved", "both", list(range(width - 1, -1, -1))))
        bench.do(("join", "back", "turn", "twice"), ("drop", "twice"), ("shortened", "both", 3))
        self.assertEqual(bench.names(), ["back", "both", "like", "turn"])
        both, back = bench.kept("both"), bench.kept("back")
        self.assertEqual((both.program.n, both.net.n, both.net.width), (3, 3, width))
        for text in plainly.texts(2, 3):
            self.assertEqual(both(text), whole(*self.told(text)))
            self.assertEqual(back(text), whole(*text))
        # The length that is taken the second time hangs on nothing that was turned.
        self.assertEqual((back.net.layers, back.program.layers), (4, 3))

    def undo(self, bench):
        """Takes back both calls of change, and does them again."""
        states = [{name: bench.kept(name) for name in bench.names()}]
        for many in (3, 4):
            self.assertEqual(len(bench.undo()), many)
            states.append({name: bench.kept(name) for name in bench.names()})
        self.assertEqual(len(bench.kept("both").program.lines()), 5)
        self.assertEqual(bench.kept("both").program.n, 4)
        for many, due in ((4, states[1]), (3, states[0])):
            self.assertEqual(len(bench.redo()), many)
            self.assertEqual({name: bench.kept(name) for name in bench.names()}, due)

    def read_back_and_write(self, bench):
        """Prunes, reads back, and writes by what is on the bench."""
        both = bench.kept("both")
        again = Fitting.read(str(both))
        self.assertEqual(again, both)
        found = read_back(pruned(again))
        # t and the length hang on nothing else, and the order is that of the depths.
        self.assertEqual(found.names(), ["v0", "v1", "v2", "v3", "v4"])
        self.assertEqual([line[0] for line in found.lines()], ["table", "count", "table", "first", "count"])
        for text in plainly.texts(2, 3):
            self.assertEqual(found(text), whole(*self.told(text)))
            self.assertEqual(found_places(found, "v4", text, 0), [
                place for place, sign in enumerate(reversed(text)) if sign == text[-1]])
        # The sign that is turned to the last place is the first one, and it is written again and again.
        turn = bench.kept("turn")
        for first, second in itertools.product(range(2), repeat=2):
            self.assertEqual(write(turn, [first, second]), (first, second, first, first))
            self.assertEqual(write(turn.program, [first, second], most=1), (first, second, first))
            self.assertEqual(next_sign(read_back(turn), [first, second]), first)
        writer = Writer(turn, [1])
        self.assertEqual([writer.step(), writer.step()], [1, 1])
        writer.use(bench.kept("back"))
        self.assertEqual((writer.step(), writer.ended), (1, True))

    def test_changes_of_what_is_read_back(self):
        fitting = make(read_back(make(Program.read(TURNED))))
        width = fitting.net.width
        column = fitting.chart.look("len")[2][0]
        fitting = shortened(scaled(moved(fitting, list(range(width))), column, (5, 1)), 3)
        for text in plainly.texts(2, 3):
            self.assertEqual(fitting(text), whole(*reversed(text)))


if __name__ == "__main__":
    unittest.main()
