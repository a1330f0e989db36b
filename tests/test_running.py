"""Points [5] and [19], and the section lookingnets/running.py of the interface."""

import copy
import inspect
import unittest

from lookingnets import running
from lookingnets.errors import BadValue, NothingLeft, NoText, TooLong
from lookingnets.nets import Net
from lookingnets.running import (
    Runner, begin_rows, bend_done, heads_done, looked_at, run, run_stages, scores, shown,
)
from tests import netly, plainly
from tests.kinds import any_values
from tests.netly import LIKE_ME, grown_net, grown_text, told

ONE, ZERO, HALF = (1, 1), (0, 1), (1, 2)
FUNCTIONS = {
    "begin_rows": ["net", "text"], "scores": ["rows", "head", "at"], "looked_at": ["rows", "head", "at"],
    "heads_done": ["rows", "heads"], "bend_done": ["rows", "units"], "run": ["net", "text"],
    "run_stages": ["net", "text"], "shown": ["rows", "columns"],
}
METHODS = {
    "__init__": ["self", "net", "text"], "text": ["self"], "rows": ["self"], "row": ["self", "place"],
    "step": ["self"], "back": ["self"], "finish": ["self"], "twin": ["self"],
}


def whole(*numbers):
    """The tuple of whole fractions."""
    return tuple((number, 1) for number in numbers)


def small(stages=(), width=3):
    """A net whose columns hold one, the sign and the place; the resting place holds 1 and -1."""
    return Net(2, 3, width, rest=[(0, ONE), (1, (-1, 1))],
               sign_rows=[[(0, ONE)], [(0, ONE), (1, ONE)]],
               place_rows=[[], [(2, ONE)], [(2, (2, 1))]], stages=stages)


class Interface(unittest.TestCase):
    def test_functions(self):
        for name, parameters in FUNCTIONS.items():
            function = getattr(running, name)
            self.assertTrue(inspect.isfunction(function), name)
            self.assertEqual(function.__module__, "lookingnets.running")
            self.assertEqual(list(inspect.signature(function).parameters), parameters)
        self.assertTrue(inspect.isgeneratorfunction(run_stages))

    def test_class(self):
        self.assertEqual(Runner.__module__, "lookingnets.running")
        for name, parameters in METHODS.items():
            self.assertIn(name, vars(Runner))
            self.assertEqual(list(inspect.signature(getattr(Runner, name)).parameters), parameters)
        for name in ["__len__", "__bool__", "__repr__"]:
            self.assertIn(name, vars(Runner))
        self.assertIsInstance(vars(Runner)["done"], property)

    def test_parameters_by_name(self):
        net = small()
        rows = begin_rows(text=[1], net=net)
        self.assertEqual(rows, [whole(1, -1, 0), whole(1, 1, 0)])
        head = (((0, 1, ONE),), ())
        self.assertEqual(scores(at=0, head=head, rows=rows), list(whole(-1, 1)))
        self.assertEqual(looked_at(at=0, head=head, rows=rows), [1])
        self.assertEqual(heads_done(heads=[head], rows=rows), rows)
        self.assertEqual(bend_done(units=[], rows=rows), rows)
        self.assertEqual(run(text=[1], net=net), rows)
        self.assertEqual(list(run_stages(text=[1], net=net)), [rows])
        self.assertEqual(shown(columns=[("x", 1)], rows=rows), ("x",))
        self.assertEqual(Runner(text=[1], net=net).row(place=0), whole(1, 1, 0))


class BeginRows(unittest.TestCase):
    def test_written_out(self):
        self.assertEqual(begin_rows(small(), [1, 0, 1]), [
            whole(1, -1, 0), whole(1, 1, 0), whole(1, 0, 1), whole(1, 1, 2)])
        self.assertEqual(begin_rows(small(width=5), (0,)), [whole(1, -1, 0, 0, 0), whole(1, 0, 0, 0, 0)])

    def test_the_sum_of_the_sign_and_the_place(self):
        net = Net(2, 2, 3, sign_rows=[[(0, HALF), (1, ONE)], [(2, ONE)]],
                  place_rows=[[(0, HALF), (1, (-1, 1))], [(0, (1, 3))]])
        self.assertEqual(begin_rows(net, [0, 0]), [
            whole(0, 0, 0), whole(1, 0, 0), ((5, 6), (1, 1), (0, 1))])
        self.assertEqual(begin_rows(net, [1, 1]), [
            whole(0, 0, 0), (HALF, (-1, 1), ONE), ((1, 3), ZERO, ONE)])

    def test_example(self):
        rows = begin_rows(Net.read(LIKE_ME), [0, 1, 0])
        due = [[0, 1], [0, 2, 4], [0, 3, 5], [0, 2, 6]]
        self.assertEqual(rows, [tuple((int(column in ones), 1) for column in range(14)) for ones in due])
        self.assertIs(type(rows), list)
        self.assertTrue(all(type(row) is tuple for row in rows))


class Heads(unittest.TestCase):
    def setUp(self):
        # Two columns and three rows, the resting place ahead.
        self.rows = [whole(1, 0), whole(2, 3), ((-1, 1), HALF)]

    def test_scores(self):
        for triples, at, due in [
            ([], 0, whole(0, 0, 0)), ([(0, 0, ONE)], 0, whole(1, 2, -1)), ([(0, 0, ONE)], 1, whole(2, 4, -2)),
            ([(0, 0, ONE)], 2, whole(-1, -2, 1)), ([(0, 1, (2, 1))], 1, whole(0, 12, 2)),
            ([(1, 0, (2, 1))], 1, whole(6, 12, -6)), ([(1, 0, HALF)], 2, ((1, 4), HALF, (-1, 4))),
            ([(0, 0, ONE), (1, 1, ONE)], 1, ((2, 1), (13, 1), (-1, 2))),
            ([(0, 0, ONE), (0, 0, ONE), (0, 1, ZERO), (1, 1, (-1, 1)), (1, 1, ONE)], 0, whole(2, 4, -2)),
        ]:
            for head in [(triples, []), (tuple(triples), ((0, 0, ONE),))]:
                found = scores(self.rows, head, at)
                self.assertEqual(found, list(due))
                self.assertIs(type(found), list)

    def test_looked_at(self):
        for triples, at, due in [
            ([], 0, [0, 1, 2]), ([], 2, [0, 1, 2]), ([(0, 0, ONE)], 0, [1]), ([(0, 0, ONE)], 2, [2]),
            ([(0, 0, (-1, 1))], 0, [2]), ([(0, 1, (-1, 1))], 0, [0]), ([(1, 0, ONE)], 0, [0, 1, 2]),
            ([(0, 0, ONE), (0, 1, (-2, 3))], 0, [0]), ([(0, 0, ONE), (0, 1, (-1, 3))], 0, [0, 1]),
        ]:
            found = looked_at(self.rows, (triples, []), at)
            self.assertEqual(found, due)
            self.assertIs(type(found), list)

    def test_scores_that_are_all_below_zero(self):
        rows = [whole(1, -5), whole(1, -2), whole(1, -2), whole(1, -3)]
        self.assertEqual(looked_at(rows, ([(0, 1, ONE)], []), 3), [1, 2])
        self.assertEqual(looked_at(rows, ([(0, 1, (-1, 1))], []), 3), [0])

    def test_givings(self):
        tie = [(0, 0, ONE), (0, 1, (-1, 3))]
        # From the resting place and from the place 0, both are looked at; from the last row, itself.
        self.assertEqual([looked_at(self.rows, (tie, []), at) for at in range(3)], [[0, 1], [0, 1], [2]])
        self.assertEqual(heads_done(self.rows, [(tie, [(0, 1, ONE)])]), [
            ((5, 2), (0, 1)), ((7, 2), (3, 1)), ((-1, 2), HALF)])
        self.assertEqual(heads_done(self.rows, [(tie, [(1, 0, (2, 1)), (0, 0, (-1, 1))])]), [
            ((-1, 2), (3, 1)), (HALF, (6, 1)), ((0, 1), (-3, 2))])
        # Several givings of one head to a column, and several heads, add up.
        several = [((), ((1, 0, ONE), (1, 0, ONE), (1, 1, (-1, 1)))), (tie, [(1, 1, ONE)]), ((), ())]
        self.assertEqual(heads_done(self.rows, several), [
            ((1, 1), (5, 3)), ((2, 1), (14, 3)), ((-1, 1), (7, 6))])

    def test_all_read_the_rows_as_they_were(self):
        heads = [((), [(0, 0, (9, 1))]), ([(0, 0, ONE)], [(1, 0, ONE)])]
        due = [whole(7, 2), whole(8, 5), ((5, 1), (-1, 2))]
        self.assertEqual(heads_done(self.rows, heads), due)
        self.assertEqual(heads_done(self.rows, heads[::-1]), due)
        # A head that gives to the column that it reads itself.
        self.assertEqual(heads_done([whole(1, 0), whole(5, 0)], [((), [(0, 0, ONE)])]),
                         [whole(4, 0), whole(8, 0)])

    def test_counted(self):
        for seed in range(200):
            net = grown_net(seed)
            rows = netly.begin(net, grown_text(seed, net))
            for kind, heads in net["stages"]:
                if kind == "heads":
                    for head in heads:
                        for at in range(len(rows)):
                            due = netly.score_list(rows, head, at)
                            self.assertEqual(scores(told(rows), head, at), list(plainly.pairs(due)))
                            self.assertEqual(looked_at(told(rows), head, at), netly.looked(rows, head, at))
                    self.assertEqual(heads_done(told(rows), heads), told(netly.heads_stage(rows, heads)))
                    rows = netly.heads_stage(rows, heads)


class Bends(unittest.TestCase):
    def test_written_out(self):
        rows = [whole(1, 0), whole(-2, 3), (HALF, (1, 3))]
        for units, due in [
            ([], rows),
            ([((), ONE, ())], rows),
            ([((), ONE, [(1, ONE)])], [whole(1, 1), whole(-2, 4), (HALF, (4, 3))]),
            ([((), ZERO, [(1, ONE)])], rows),
            ([((), (-1, 1), [(1, ONE)])], rows),
            ([([(0, ONE)], ZERO, [(1, (2, 1))])], [whole(1, 2), whole(-2, 3), (HALF, (4, 3))]),
            ([([(0, (-1, 1))], ZERO, [(1, (2, 1))])], [whole(1, 0), whole(-2, 7), (HALF, (1, 3))]),
            ([([(0, ONE)], (-1, 1), [(1, ONE)])], rows),
            ([([(0, ONE)], (-1, 2), [(1, ONE), (0, (-1, 1))])], [(HALF, HALF), whole(-2, 3), (HALF, (1, 3))]),
            ([([(0, ONE), (1, ONE)], ZERO, [(0, ONE)])], [whole(2, 0), whole(-1, 3), ((4, 3), (1, 3))]),
            # Terms and givings that are not in normal form.
            ([([(1, ONE), (0, ONE), (1, ONE)], ZERO, [(1, HALF), (0, ZERO), (1, HALF)])],
             [whole(1, 1), whole(-2, 7), (HALF, (3, 2))]),
        ]:
            for some in [list(units), tuple(units)]:
                found = bend_done(rows, some)
                self.assertEqual(found, due)
                self.assertIs(type(found), list)
                self.assertTrue(all(type(row) is tuple for row in found))

    def test_all_read_the_rows_as_they_were(self):
        units = [([(0, ONE)], ZERO, [(1, ONE)]), ([(1, ONE)], ZERO, [(0, ONE)]), ([(1, ONE)], ONE, [(1, ONE)])]
        for some in [units, units[::-1]]:
            self.assertEqual(bend_done([whole(1, 0), whole(2, 5)], some), [whole(1, 2), whole(7, 13)])
        self.assertEqual(bend_done([whole(3)], [([(0, ONE)], ZERO, [(0, ONE)])] * 3), [whole(12)])

    def test_counted(self):
        for seed in range(200):
            net = grown_net(seed)
            rows = netly.begin(net, grown_text(seed, net))
            for kind, units in net["stages"]:
                if kind == "bend":
                    self.assertEqual(bend_done(told(rows), units), told(netly.bend_stage(rows, units)))
                    rows = netly.bend_stage(rows, units)


class Runs(unittest.TestCase):
    def test_example(self):
        net = Net.read(LIKE_ME)
        head = net.stages()[0][1][0]
        rows = begin_rows(net, [0, 1, 0])
        # Index 1 is the place 0.
        self.assertEqual(scores(rows, head, 1), list(whole(1, 1, 0, 1)))
        self.assertEqual(looked_at(rows, head, 1), [0, 1, 3])
        self.assertEqual(looked_at(rows, head, 2), [0, 2])
        self.assertEqual(looked_at(rows, head, 0), [0])
        behind = heads_done(rows, net.stages()[0][1])
        self.assertEqual([row[8] for row in behind], [(1, 1), (1, 3), (1, 2), (1, 3)])
        last = bend_done(behind, net.stages()[1][1])
        self.assertEqual([row[9:] for row in last], [
            whole(0, 0, 0, 0, 0), whole(0, 0, 1, 0, 0), whole(0, 1, 0, 0, 0), whole(0, 0, 1, 0, 0)])
        self.assertEqual(run(net, [0, 1, 0]), last)
        self.assertEqual(list(run_stages(net, [0, 1, 0])), [rows, behind, last])

    def test_example_at_all_texts(self):
        net = Net.read(LIKE_ME)
        columns = [((count, 1), 9 + count) for count in range(5)]
        for text in plainly.texts(2, 4):
            rows = run(net, text)
            self.assertEqual(shown(rows, columns), whole(*[text.count(sign) for sign in text]))
            self.assertEqual(rows[0][9:], whole(0, 0, 0, 0, 0))
            self.assertEqual(shown(rows, [("zero", 2), ("one", 3)]),
                             tuple(("zero", "one")[sign] for sign in text))

    def test_counted(self):
        for seed in range(300):
            parts = grown_net(seed)
            net = Net(**parts)
            for text in [grown_text(seed, parts), tuple(grown_text(seed + 1, parts))]:
                due = [told(rows) for rows in netly.all_rows(parts, text)]
                self.assertEqual(begin_rows(net, text), due[0])
                self.assertEqual(run(net, text), due[-1])
                found = list(run_stages(net, text))
                self.assertEqual(found, due)
                for rows in found + [run(net, text), begin_rows(net, text)]:
                    self.assertIs(type(rows), list)
                    self.assertTrue(all(type(row) is tuple for row in rows))

    def test_each_list_is_new(self):
        for stages in [(), [("heads", ())] * 2, [("bend", ())] * 2, [("heads", []), ("bend", [])]]:
            net = small(stages)
            due = begin_rows(net, [1, 0])
            found = []
            for rows in run_stages(net, [1, 0]):
                self.assertEqual(rows, due)
                rows.append(None)
                rows[0] = None
                found.append(rows)
            self.assertEqual(len(found), len(stages) + 1)
            self.assertEqual(len({id(rows) for rows in found}), len(found))
            run(net, [1, 0]).clear()
            begin_rows(net, [1, 0]).clear()
            self.assertEqual(run(net, [1, 0]), due)

    def test_arguments_stay(self):
        for seed in range(60):
            parts = grown_net(seed)
            net, text = Net(**parts), grown_text(seed, parts)
            rows = begin_rows(net, text)
            kept = copy.deepcopy((parts, text, rows, net.stages()))
            for kind, several in parts["stages"]:
                done = heads_done if kind == "heads" else bend_done
                self.assertIsNot(done(rows, several), rows)
            self.assertIsNot(heads_done(rows, []), rows)
            self.assertIsNot(bend_done(rows, []), rows)
            run(net, text), list(run_stages(net, text)), Runner(net, text).finish()
            self.assertEqual((parts, text, rows, net.stages()), kept)


class Shown(unittest.TestCase):
    def test_written_out(self):
        rows = [whole(1, 0, 0), whole(1, 0, 0), whole(0, 1, 0), whole(0, 0, 0), whole(1, 1, 0),
                (HALF, ZERO, ZERO), whole(2, 0, 0), whole(-1, 0, 0), (ONE, (-1, 1), ZERO),
                (ONE, ZERO, (7, 1)), (HALF, HALF, ZERO), (ONE, HALF, ZERO)]
        self.assertEqual(shown(rows, [("a", 0), ("b", 1)]), (
            "a", "b", None, None, None, None, None, None, "a", None, None))
        self.assertEqual(shown(rows, [((5, 1), 1)]), (
            None, (5, 1), None, (5, 1), None, None, None, None, None, None, None))
        self.assertEqual(shown(rows, (((1, 2), 2), ("b", 1), ("a", 0))), (
            "a", "b", None, None, None, None, None, None, None, None, None))
        self.assertEqual(shown(rows, []), (None,) * 11)
        self.assertEqual(shown(rows[:1], [("a", 0)]), ())
        self.assertEqual(shown(rows[:2], [(None, 1), (False, 0)]), (False,))


class RunnerClass(unittest.TestCase):
    def setUp(self):
        self.net = Net.read(LIKE_ME)
        self.all = [told(rows) for rows in netly.all_rows(
            {"width": 14, "rest": self.net.rest_row(), "sign_rows": self.net.sign_rows(),
             "place_rows": self.net.place_rows(), "stages": self.net.stages()}, [0, 1, 0])]
        self.runner = Runner(self.net, [0, 1, 0])

    def assert_state(self, runner, done):
        """Asserts how far a runner is, by all that it tells."""
        self.assertEqual(runner.done, done)
        self.assertEqual(len(runner), 2 - done)
        self.assertIs(bool(runner), True)
        self.assertEqual(repr(runner), f"Runner({done} of 2 stages)")
        self.assertEqual(runner.rows(), self.all[done])
        self.assertEqual(runner.row(), self.all[done][0])
        self.assertEqual(runner.row(None), self.all[done][0])
        self.assertEqual([runner.row(place) for place in range(3)], self.all[done][1:])
        self.assertEqual(runner.text(), (0, 1, 0))
        self.assertIs(type(runner.text()), tuple)
        self.assertIs(type(runner.rows()), list)
        self.assertIs(type(runner.row(1)), tuple)

    def test_there_and_back(self):
        runner = self.runner
        self.assertIs(runner.net, self.net)
        self.assert_state(runner, 0)
        self.assertIsNone(runner.step())
        self.assert_state(runner, 1)
        self.assertIsNone(runner.step())
        self.assert_state(runner, 2)
        self.assertIsNone(runner.back())
        self.assert_state(runner, 1)
        self.assertIsNone(runner.back())
        self.assert_state(runner, 0)
        runner.step()
        self.assertIs(runner.net, self.net)
        self.assert_state(runner, 1)

    def test_nothing_left(self):
        for _ in range(2):
            with self.assertRaises(NothingLeft):
                self.runner.back()
            self.assert_state(self.runner, 0)
        self.assertEqual(self.runner.finish(), 2)
        for _ in range(2):
            with self.assertRaises(NothingLeft):
                self.runner.step()
            self.assert_state(self.runner, 2)
        runner = Runner(small(), [1])
        for call in [runner.step, runner.back]:
            with self.assertRaises(NothingLeft):
                call()
        self.assertEqual((runner.finish(), runner.done, len(runner)), (0, 0, 0))
        self.assertIs(bool(runner), True)
        self.assertEqual(repr(runner), "Runner(0 of 0 stages)")

    def test_finish(self):
        self.assertEqual(self.runner.finish(), 2)
        self.assert_state(self.runner, 2)
        self.assertEqual(self.runner.finish(), 0)
        self.runner.back()
        self.assertEqual(self.runner.finish(), 1)
        self.assert_state(self.runner, 2)

    def test_twin(self):
        runner = self.runner
        runner.step()
        twin = runner.twin()
        self.assertIs(type(twin), Runner)
        self.assertIs(twin.net, self.net)
        self.assert_state(twin, 1)
        twin.step()
        self.assert_state(twin, 2)
        self.assert_state(runner, 1)
        runner.back()
        self.assert_state(twin, 2)
        self.assert_state(runner, 0)
        twin.back(), twin.back()
        self.assert_state(twin, 0)
        runner.finish()
        self.assert_state(twin, 0)
        self.assert_state(runner.twin(), 2)

    def test_lists_are_copied(self):
        text = [0, 1, 0]
        runner = Runner(self.net, text)
        text[1] = 9
        text.append(None)
        for done in range(3):
            self.assert_state(runner, done)
            rows = runner.rows()
            rows[0] = None
            rows.clear()
            self.assert_state(runner, done)
            if done < 2:
                runner.step()
        runner.back()
        self.assert_state(runner, 1)

    def test_no_place(self):
        wrong = any_values() + [3, 4, -1, -2, "0", (0, 1), [0], True, False, self.runner]
        for _ in range(3):
            for place in wrong:
                if place is not None and (isinstance(place, bool) or place not in (0, 1)):
                    with self.assertRaises(BadValue) as caught:
                        self.runner.row(place)
                    self.assertIs(caught.exception.value, place)
            if len(self.runner):
                self.runner.step()
        self.assert_state(self.runner, 2)

    def test_counted(self):
        for seed in range(60):
            parts = grown_net(seed)
            net, text = Net(**parts), grown_text(seed, parts)
            due = [told(rows) for rows in netly.all_rows(parts, text)]
            runner = Runner(net, text)
            for done in range(len(due)):
                self.assertEqual((runner.rows(), runner.done, len(runner)),
                                 (due[done], done, len(due) - 1 - done))
                if len(runner):
                    runner.step()
            for done in range(len(due) - 1, 0, -1):
                self.assertEqual(runner.rows(), due[done])
                runner.back()
            self.assertEqual(runner.rows(), due[0])


class Errors(unittest.TestCase):
    def calls(self, net):
        """The calls that take a text."""
        return [lambda text: begin_rows(net, text), lambda text: run(net, text),
                lambda text: next(run_stages(net, text)), lambda text: Runner(net, text)]

    def raises(self, kind, due, call, text):
        """Asserts that a call raises an error of a class."""
        with self.assertRaises(kind) as caught:
            call(text)
        error = caught.exception
        found = error.at if kind is NoText else error.length
        self.assertEqual(found, due)
        self.assertIs(type(found), int)

    def test_texts(self):
        for call in self.calls(small()):
            for wrong in any_values() + ["01", b"0", {0: 1}, range(2)]:
                if not isinstance(wrong, (list, tuple)) or len(wrong) == 0:
                    self.raises(NoText, -1, call, wrong)
            for part in [0, 2, None, True]:
                self.raises(TooLong, 4, call, [part] * 4)
                self.raises(TooLong, 9, call, (part,) * 9)
            for wrong in [2, -1, None, True, False, "0", (0, 1), [0], 10 ** 17]:
                self.raises(NoText, 0, call, [wrong])
                self.raises(NoText, 1, call, (0, wrong, 1))
                self.raises(NoText, 2, call, [1, 0, wrong])
                self.raises(NoText, 1, call, [1, wrong, wrong])

    def test_the_signs_and_the_n_of_the_net(self):
        for signs in range(2, 6):
            for n in range(1, 9):
                net = Net(signs, n, 1, sign_rows=[[]] * signs, place_rows=[[]] * n)
                for call in self.calls(net):
                    call([signs - 1] * n)
                    self.raises(NoText, n - 1, call, [0] * (n - 1) + [signs])
                    self.raises(TooLong, n + 1, call, [0] * (n + 1))

    def test_a_generator_raises_when_its_first_item_is_requested(self):
        for text, kind in [([], NoText), ([0] * 4, TooLong), ([5], NoText)]:
            stages = run_stages(small(), text)
            with self.assertRaises(kind):
                next(stages)


if __name__ == "__main__":
    unittest.main()
