"""Points [2], [20] and [28.1]: the texts of charts, there and back, and the lines that cannot stand."""

import random
import re
import unittest
from fractions import Fraction

from lookingnets.charts import Chart
from lookingnets.errors import BadText
from tests.kinds import almost, any_values
from tests.test_charts import grown_chart, like_me

SHORT = "chart 0 1\nend\n"
LIKE_ME = """chart 0 1
name c 1 0:9 1:10 2:11 3:12 4:13
name place -1 0:4 1:5 2:6 3:7
name sign -1 0:2 1:3
look c 0 0 8
end
"""
# Each kind of line, with and without pairs and columns.
FULL = """chart 1999 7
name a -1
name a1 99 -99:0
name b 0 -99/2:2 -1/3:1998 0:1 1/9999:12 1/2:3 1:4 99:5
name place 5
name sign 98 1:6
look a 0 999
look a1 99 0 8
look b 1 2 9 10 11
look sign 0 0
end
"""
NUMBER = "(?:0|[1-9][0-9]{0,3})"
# A word name, and the words that are reserved.
NAME = "(?!(?:%s)$)[a-z][a-z0-9]{0,5}" % "|".join(
    "program let tell be table first last count mean where pairs else min max mod div and or not if".split())


def value_of(word):
    """The fraction of Python that a word writes out, if it is a value; otherwise None."""
    found = re.fullmatch(r"(-?[0-9]{1,6})(?:/([0-9]{1,4}))?", word)
    if not found or (found[2] and int(found[2]) == 0):
        return None
    x = Fraction(int(found[1]), int(found[2] or 1))
    due = str(x.numerator) + ("" if x.denominator == 1 else f"/{x.denominator}")
    return x if due == word and abs(x) <= 99 and x.denominator <= 9999 else None


def columns_of(row, entries, looks):
    """The columns that a row brings, if it can stand behind some entries and looks; else None.

    They are lists of the names, to which that of the row is put.
    """
    name = re.fullmatch(f"name ({NAME}) (-1|[0-9]|[1-9][0-9])((?: [^ ]+)*)", row)
    look = re.fullmatch(f"look ({NAME}) ([0-9]|[1-9][0-9]) (0|[1-9][0-9]{{0,2}})((?: {NUMBER})*)", row)
    if name and not looks and (not entries or entries[-1] < name[1]):
        entries.append(name[1])
        parts = [word.split(":") for word in name[3].split()]
        if not all(len(part) == 2 and re.fullmatch(NUMBER, part[1]) for part in parts):
            return None
        values = [value_of(part[0]) for part in parts]
        if None in values or any(not a < b for a, b in zip(values, values[1:])):
            return None
        return [int(part[1]) for part in parts]
    if look and look[1] in entries and (not looks or looks[-1] < look[1]):
        looks.append(look[1])
        columns = [int(word) for word in look[4].split()]
        return columns if columns == sorted(columns) else None
    return None


def first_bad(text):
    """The index of the first line of a text that cannot stand; None if it is the text of a chart.

    Counted in another way than the program does: each line by patterns.
    """
    lines = re.findall(r"[^\n]*\n|[^\n]+$", text)
    rows = [line[:-1] for line in lines if line.endswith("\n")]
    ends = re.fullmatch(f"chart ({NUMBER}) ({NUMBER})", rows[0]) if rows else None
    if not ends or ends[1] == ends[2] or max(int(ends[1]), int(ends[2])) > 1999:
        return 0
    seen, entries, looks = [int(ends[1]), int(ends[2])], [], []
    for at, row in enumerate(rows[1:], 1):
        if row == "end":
            return at + 1 if len(lines) > at + 1 else None
        columns = columns_of(row, entries, looks)
        if columns is None or max(columns, default=0) > 1999:
            return at
        seen += columns
        if len(set(seen)) < len(seen):
            return at
    return len(rows)


class Texts(unittest.TestCase):
    def bad(self, line, text):
        """Asserts that a text is not read, with the first line that cannot stand."""
        with self.assertRaises(BadText) as caught:
            Chart.read(text)
        self.assertEqual(caught.exception.line, line, str(text)[-300:])
        self.assertIs(type(caught.exception.line), int)


class ThereAndBack(Texts):
    def test_written_out(self):
        for text in [SHORT, LIKE_ME, FULL]:
            chart = Chart.read(text)
            self.assertIs(type(chart), Chart)
            self.assertEqual(chart.text(), text)
            self.assertEqual(str(chart), text)
        self.assertEqual(Chart(**like_me()).text(), LIKE_ME)
        self.assertEqual(str(Chart(**like_me())), LIKE_ME)
        self.assertEqual(Chart.read(LIKE_ME), Chart(**like_me()))

    def test_parts_that_are_read(self):
        chart = Chart.read(FULL)
        self.assertEqual((chart.one, chart.rest, len(chart)), (1999, 7, 5))
        self.assertEqual(chart.names(), (
            ("a", (), -1), ("a1", (((-99, 1), 0),), 99),
            ("b", (((-99, 2), 2), ((-1, 3), 1998), ((0, 1), 1), ((1, 9999), 12), ((1, 2), 3), ((1, 1), 4),
                   ((99, 1), 5)), 0),
            ("place", (), 5), ("sign", (((1, 1), 6),), 98)))
        self.assertEqual(chart.looks(), (
            ("a", 0, 999, ()), ("a1", 99, 0, (8,)), ("b", 1, 2, (9, 10, 11)), ("sign", 0, 0, ())))

    def test_written_for_any_order(self):
        names = [("b", [((1, 1), 3), ((-1, 2), 4)], 2), ("a10", [], 5), ("a9", [((0, 1), 2)], -1)]
        looks = [("b", 0, 1, [9, 8]), ("a10", 3, 2, [])]
        self.assertEqual(Chart(1, 0, names, looks).text(), (
            "chart 1 0\nname a10 5\nname a9 -1 0:2\nname b 2 -1/2:4 1:3\n"
            "look a10 3 2\nlook b 0 1 8 9\nend\n"))

    def test_counted(self):
        for seed in range(200):
            one, rest, names, looks = grown_chart(seed)
            chart = Chart(one, rest, names, looks)
            text = chart.text()
            self.assertIsNone(first_bad(text))
            self.assertEqual(text.count("\n"), 2 + len(names) + len(looks))
            self.assertEqual(Chart.read(text), chart)
            self.assertEqual(Chart.read(text).text(), text)

    def test_many_entries(self):
        names = [f"n{at:05d}" for at in range(3000)]
        text = "chart 0 1\n" + "".join(f"name {name} 3\n" for name in names) + "".join(
            f"look {name} 2 {at}\n" for at, name in enumerate(names[:1000])) + "end\n"
        chart = Chart.read(text)
        self.assertEqual((len(chart), len(chart.looks())), (3000, 1000))
        self.assertEqual(chart.text(), text)


class BadTexts(Texts):
    def test_what_is_no_string(self):
        for value in any_values():
            self.bad(0, value)
        for value in [[SHORT], (SHORT,), SHORT.encode(), SHORT.split("\n"), Chart.read(SHORT)]:
            self.bad(0, value)

    def test_first_rows(self):
        for row in [
            "", "chart", "chart ", "chart 0", "chart 0 ", "chart 0 1 ", "chart 0 1 2", " chart 0 1",
            "chart  0 1", "chart 0  1", "Chart 0 1", "charts 0 1", "chart 0 0", "chart 1999 1999",
            "chart 2000 1", "chart 0 2000", "chart -1 0", "chart 0 -1", "chart 00 1", "chart 0 01",
            "chart +0 1", "chart 0 1/1", "chart 0/1 1", "chart x 1", "chart 0 x", "chart 0:1", "chart 0,1",
            "chart 0 1\t", "net 0 1", "end", "name a 0", "chart " + "9" * 6000 + " 1",
            "chart 0 " + "1" * 6000, "chart 0 " + "0" * 6000 + "1", "chart 0 1.",
        ]:
            self.bad(0, SHORT.replace("chart 0 1", row))
            self.bad(0, row + "\n")
            self.bad(0, row)
        for row in ["chart 0 1999", "chart 1999 0", "chart 5 4"]:
            self.assertEqual(Chart.read(SHORT.replace("chart 0 1", row)).text(), row + "\nend\n")

    def test_names(self):
        start = "chart 0 1\nname b 3 0:2 1:3\n"
        for row in [
            "", " ", "name", "name ", "name c", "name c ", "name c 0 ", "name  c 0", "name c  0", " name c 0",
            "Name c 0", "names c 0", "name C 0", "name c_ 0", "name 1c 0", "name c -2", "name c 100",
            "name c -0", "name c 00", "name c 01", "name c +1", "name c 1/1", "name c x", "name c -1:5",
            "name c -01", "name a 0", "name b 0", "name aaaaaa 0", "name ccccccc 0", "name let 0",
            "name program 0", "name count 0", "name c 0 0:1", "name c 0 0:0", "name c 0 0:2", "name c 0 5:3",
            "name c 0 0:5 1:5", "name c 0 0:5 1:1", "name c 0 0:5 0:6", "name c 0 1:5 0:6",
            "name c 0 1/2:5 1/3:6", "name c 0 1/2:5 1/2:6", "name c 0 -1/3:5 -1/2:6", "name c 0 0:2000",
            "name c 0 0:-1", "name c 0 0:05", "name c 0 0:+5", "name c 0 0:", "name c 0 :5", "name c 0 5",
            "name c 0 0:5 ", "name c 0 0:5  1:6", "name c 0  0:5", "name c 0 0:5:6", "name c 0 0,5",
            "name c 0 2/2:5", "name c 0 2/4:5", "name c 0 0/1:5", "name c 0 1/-2:5", "name c 0 1/0:5",
            "name c 0 -0:5", "name c 0 100:5", "name c 0 -100:5", "name c 0 199/2:5", "name c 0 1/10000:5",
            "name c 0 a:5", "name c 0 0:a", "name c 0 0:5/1", "name c 0 " + "1" * 6000 + ":5",
            "name c 0 0:" + "1" * 6000, "name c " + "1" * 6000, "name c 0 1/" + "7" * 6000 + ":5",
            "name c 0 0:5\t1:6", "name c,0", "name c\t0", "let c 0", "look c 0 0", "chart 0 1", "heads",
        ]:
            self.bad(2, f"{start}{row}\nend\n")
            self.bad(2, f"{start}{row}\nname d 0\n")
            self.bad(2, f"{start}{row}")
        for row in ["name c -1", "name c 99", "name zzzzzz 0", "name bb 0", "name b0 0", "name sign 0",
                    "name place 7 5:4", "name c 0 -99:4 1/9999:1999 99:5", "name c 0 -1/2:5 -1/3:6 0:7"]:
            self.assertEqual(Chart.read(f"{start}{row}\nend\n").text(), f"{start}{row}\nend\n")

    def test_looks(self):
        start = "chart 0 1\nname a 3 0:2 1:3\nname b 4 0:4\nname c 5\nlook b 1 2 7 9\n"
        for row in [
            "", " ", "look", "look ", "look c", "look c 0", "look c 0 ", "look c 0 0 ", "look  c 0 0",
            "look c  0 0", "look c 0  0", "look c 0 0  5", " look c 0 0", "Look c 0 0", "looks c 0 0",
            "look a 0 0", "look b 0 0", "look d 0 0", "look sign 0 0", "look C 0 0", "look let 0 0",
            "look c -1 0", "look c 100 0", "look c 0 -1", "look c 0 1000", "look c 00 0", "look c 01 0",
            "look c 0 00", "look c 0 01", "look c +1 0", "look c 0 1/1", "look c x 0", "look c 0 x",
            "look c 0 0 2000", "look c 0 0 -5", "look c 0 0 05", "look c 0 0 x", "look c 0 0 5:6",
            "look c 0 0 5,6", "look c 0 0 6 5", "look c 0 0 5 5", "look c 0 0 0", "look c 0 0 1",
            "look c 0 0 2", "look c 0 0 4", "look c 0 0 7", "look c 0 0 5 9", "look c 0 0 8 9", "name d 0",
            "look c 0 0 5\t6", "look c " + "1" * 6000 + " 0", "look c 0 " + "1" * 6000,
            "look c 0 0 " + "1" * 6000, "chart 0 1", "end 0",
        ]:
            self.bad(5, f"{start}{row}\nend\n")
            self.bad(5, f"{start}{row}\nlook c 0 0\n")
            self.bad(5, f"{start}{row}")
        for row in ["look c 0 0", "look c 99 999 5 6 8 10 1999", "look c 1 2"]:
            self.assertEqual(Chart.read(f"{start}{row}\nend\n").text(), f"{start}{row}\nend\n")
        self.bad(1, "chart 0 1\nlook a 0 0\nend\n")
        self.bad(1, "chart 0 1\nlook a 0 0\nname a 0\nend\n")

    def test_the_end(self):
        for text in [SHORT, LIKE_ME, FULL]:
            lines = text.count("\n")
            for behind in ["\n", " ", "x", "end\n", "end", "name z 0\n", " \n", "\n\n", "chart 0 1\n", text]:
                self.bad(lines, text + behind)
            self.bad(lines - 1, text.removesuffix("\n"))
            self.bad(lines - 1, text.removesuffix("\n") + " \n")
            self.bad(lines - 1, text.removesuffix("\n") + " ")
            self.bad(lines - 1, text.replace("end", "End"))
            self.bad(lines - 1, text.replace("end", " end"))
            rows = text.split("\n")
            for many in range(lines):
                # The text ends ahead of `end`, with and without characters behind a line feed.
                whole = "".join(row + "\n" for row in rows[:many])
                self.bad(many, whole)
                self.bad(many, whole + " ")
                self.bad(many, whole + rows[many])
        self.bad(0, "")
        self.bad(0, "\n")
        self.bad(0, "chart 0 1")

    def test_the_first_of_several(self):
        self.bad(1, LIKE_ME.replace("name c 1", "name c 100").replace("end", "ends") + "x")
        self.bad(3, LIKE_ME.replace("1:3", "1:9").replace("look c", "look d"))
        # A column that is charted twice is told at the line with which it comes again.
        self.bad(4, LIKE_ME.replace("look c 0 0 8", "look c 0 0 7"))
        self.bad(2, LIKE_ME.replace("0:9", "0:4"))
        self.bad(1, LIKE_ME.replace("chart 0 1", "chart 9 13"))

    def test_changed_by_chance(self):
        chance = random.Random(12)
        texts = [SHORT, LIKE_ME, FULL] + [Chart(*grown_chart(seed)).text() for seed in range(40)]
        read = 0
        for _ in range(5000):
            text = almost(chance, chance.choice(texts), "0123456789 -/:\nabe")
            due = first_bad(text)
            if due is None:
                self.assertEqual(Chart.read(text).text(), text)
                read += 1
            else:
                self.bad(due, text)
        self.assertGreater(read, 100)


if __name__ == "__main__":
    unittest.main()
