"""Points [3] and [20]: the texts of nets, there and back, and the lines that cannot stand."""

import random
import re
import unittest

from lookingnets.errors import BadText, BadValue
from lookingnets.nets import Net
from tests.kinds import almost, any_values
from tests.netly import LIKE_ME, grown_net

SHORT = """net 2 1 3
rest
sign 0
sign 1
place 0
end
"""
# Each kind of line, with and without items.
FULL = """net 3 2 12
rest 0:1 11:-1/2
sign 0
sign 1 10:3
sign 2 0:1 2:-5 3:2/3
place 0 4:1
place 1
bend
heads
head >
head 0,1:1 >
head > 0,1:1
head 0,11:-1/3 1,0:7 1,9:1 1,10:2 > 2,3:1 11,0:-4
bend
unit 0 >
unit -1/2 1:1 >
unit 3 > 1:1
unit 22/7 0:1 9:-1/2 10:3 > 2:5 11:-6
heads
head 5,5:5 > 5,5:5
bend
bend
heads
end
"""
NUMBER = "(0|[1-9][0-9]*)"


def is_factor(word, zero=False):
    """Whether a word is the text of a fraction, by a pattern and by Euclid's way; not 0 unless
    this is said to stand.
    """
    found = re.fullmatch(r"(-?)(0|[1-9][0-9]{0,59})(?:/([1-9][0-9]{0,59}))?", word)
    if not found:
        return False
    top, bottom = int(found[2]), int(found[3] or 1)
    if found[3] and (bottom == 1 or top == 0):
        return False
    if top == 0:
        return zero and word == "0"
    a, b = top, bottom
    while b:
        a, b = b, a % b
    return a == 1


def are_items(words, many, width):
    """Whether words are entries or triples in normal form, with columns within the width."""
    last = None
    for word in words:
        found = re.fullmatch(",".join([NUMBER] * many) + ":(.*)", word, re.DOTALL)
        if not found or not is_factor(found[many + 1]):
            return False
        columns = [int(found[at]) for at in range(1, many + 1)]
        if max(columns) >= width or (last is not None and columns <= last):
            return False
        last = columns
    return True


def is_part(row, kind, width):
    """Whether a row can stand in a stage of a kind."""
    left, arrow, right = row.partition(" >")
    words, behind = left.split(" "), right.split(" ")
    if not arrow or behind[0] != "":
        return False
    if kind == "heads":
        return words[0] == "head" and are_items(words[1:], 2, width) and are_items(behind[1:], 2, width)
    return words[0] == "unit" and len(words) > 1 and is_factor(words[1], True) and (
        are_items(words[2:], 1, width) and are_items(behind[1:], 1, width))


def first_bad(text):
    """The index of the first line of a text that cannot stand; None if it is the text of a net.

    Counted in another way than the program does: each line by patterns.
    """
    lines = re.findall(r"[^\n]*\n|[^\n]+$", text)
    rows = [line[:-1] for line in lines if line.endswith("\n")]
    sizes = re.fullmatch(r"net ([2-5]) ([1-8]) ([1-9][0-9]{0,3})", rows[0]) if rows else None
    if not sizes or int(sizes[3]) > 2000:
        return 0
    signs, n, width = [int(sizes[at]) for at in (1, 2, 3)]
    starts = ["rest"] + [f"sign {s}" for s in range(signs)] + [f"place {u}" for u in range(n)]
    for at, start in enumerate(starts, 1):
        if at >= len(rows) or not rows[at].startswith(start):
            return at
        words = rows[at][len(start):].split(" ")
        if words[0] != "" or not are_items(words[1:], 1, width):
            return at
    kind, stages = None, 0
    for at in range(len(starts) + 1, len(rows)):
        if rows[at] == "end":
            return at + 1 if len(lines) > at + 1 else None
        if rows[at] in ("heads", "bend"):
            kind, stages = rows[at], stages + 1
            if stages > 100:
                return at
        elif kind is None or not is_part(rows[at], kind, width):
            return at
    return len(rows)


class Texts(unittest.TestCase):
    def bad(self, line, text):
        """Asserts that a text is not read, with the first line that cannot stand."""
        with self.assertRaises(BadText) as caught:
            Net.read(text)
        self.assertEqual(caught.exception.line, line, str(text)[-300:])
        self.assertIs(type(caught.exception.line), int)


class ThereAndBack(Texts):
    def test_written_out(self):
        for text in [SHORT, FULL, LIKE_ME]:
            net = Net.read(text)
            self.assertIs(type(net), Net)
            self.assertEqual(net.text(), text)
            self.assertEqual(str(net), text)

    def test_parts_that_are_read(self):
        net = Net.read(FULL)
        self.assertEqual((net.signs, net.n, net.width), (3, 2, 12))
        self.assertEqual(net.rest_row(), ((0, (1, 1)), (11, (-1, 2))))
        self.assertEqual(net.sign_rows(), (
            (), ((10, (3, 1)),), ((0, (1, 1)), (2, (-5, 1)), (3, (2, 3)))))
        self.assertEqual(net.place_rows(), (((4, (1, 1)),), ()))
        stages = net.stages()
        self.assertEqual([kind for kind, _ in stages],
                         ["bend", "heads", "bend", "heads", "bend", "bend", "heads"])
        self.assertEqual([len(parts) for _, parts in stages], [0, 4, 4, 1, 0, 0, 0])
        self.assertEqual(stages[1][1], (
            ((), ()), (((0, 1, (1, 1)),), ()), ((), ((0, 1, (1, 1)),)),
            (((0, 11, (-1, 3)), (1, 0, (7, 1)), (1, 9, (1, 1)), (1, 10, (2, 1))),
             ((2, 3, (1, 1)), (11, 0, (-4, 1))))))
        self.assertEqual(stages[2][1], (
            ((), (0, 1), ()), (((1, (1, 1)),), (-1, 2), ()), ((), (3, 1), ((1, (1, 1)),)),
            (((0, (1, 1)), (9, (-1, 2)), (10, (3, 1))), (22, 7), ((2, (5, 1)), (11, (-6, 1))))))

    def test_the_shortest(self):
        net = Net(2, 1, 3, sign_rows=[[], []], place_rows=[[]])
        self.assertEqual(net.text(), SHORT)
        self.assertEqual(net.with_stages([("heads", [((), ())]), ("bend", [((), (0, 1), ())])]).text(),
                         SHORT.replace("end\n", "heads\nhead >\nbend\nunit 0 >\nend\n"))

    def test_counted(self):
        for seed in range(150):
            net = Net(**grown_net(seed))
            text = net.text()
            self.assertIsNone(first_bad(text))
            self.assertEqual(Net.read(text), net)
            self.assertEqual(Net.read(text).text(), text)

    def test_the_greatest_sizes(self):
        places = "".join(f"place {u}\n" for u in range(8))
        signs = "".join(f"sign {s} 1999:1\n" for s in range(5))
        text = f"net 5 8 2000\nrest 0:1 1999:1\n{signs}{places}" + "heads\n" * 99 + "bend\nend\n"
        self.assertEqual(Net.read(text).text(), text)
        self.bad(0, text.replace("2000", "2001", 1))
        stages = text.removesuffix("end\n")
        self.bad(115, stages + "heads\nend\n")
        self.bad(115, stages + "bend\n")
        self.bad(115, stages)

    def test_factors_with_sixty_digits(self):
        top, bottom = "7" * 60, "1" + "0" * 59
        text = SHORT.replace("rest", f"rest 0:{top}/{bottom} 1:-{top}").replace(
            "end", f"bend\nunit -{top}/{bottom} 0:1/{top} > 1:{bottom}\nend")
        self.assertEqual(Net.read(text).text(), text)
        self.assertIsNone(first_bad(text))
        for longer in [f"{top}7/{bottom}", f"{top}7", f"-{top}7", f"1/{bottom}0", f"7/{bottom}0"]:
            self.bad(1, SHORT.replace("rest", f"rest 0:{longer}"))
            self.bad(6, SHORT.replace("end", f"bend\nunit {longer} >\nend"))


class FactorsWithoutText(unittest.TestCase):
    def test_the_first_in_the_order_of_the_text(self):
        # The factors stand at the columns in an order that is not theirs.
        large = [(10 ** 60 + at, 1) if at % 2 else (1, 10 ** 60 + at) for at in range(9)]
        spots = [(4, large[0]), (3, (1, 1)), (2, large[1])]
        rows = {
            "rest": spots, "sign_rows": [[], [(1, large[2])]], "place_rows": [[], [(1, large[3])]],
            "stages": [
                ("heads", [([(1, 2, large[5]), (1, 1, large[4])], [(0, 1, large[6])])]),
                ("bend", [([(1, large[7])], large[8], [(0, (10 ** 70, 1))])])],
        }
        right = {"rest": [], "sign_rows": [[], []], "place_rows": [[], []], "stages": rows["stages"]}
        head, unit = rows["stages"][0][1][0], rows["stages"][1][1][0]
        for changed, due in [
            (rows, large[1]), ({**rows, "rest": [(4, large[0]), (0, (1, 1))]}, large[0]),
            ({**rows, "rest": []}, large[2]), ({**right, "place_rows": rows["place_rows"]}, large[3]),
            (right, large[4]), ({**right, "stages": [("heads", [(head[0][:1], head[1])])]}, large[5]),
            ({**right, "stages": [("bend", []), ("heads", [((), ()), ([], head[1])])]}, large[6]),
            ({**right, "stages": [("bend", [unit])]}, large[8]),
            ({**right, "stages": [("bend", [(unit[0], (1, 2), unit[2])])]}, large[7]),
            ({**right, "stages": [("bend", [((), (0, 1), unit[2])])]}, (10 ** 70, 1)),
            ({**right, "stages": [("bend", [unit]), ("heads", [head])]}, large[8]),
        ]:
            net = Net(2, 2, 5, **changed)
            for call in [net.text, lambda: str(net)]:
                with self.assertRaises(BadValue) as caught:
                    call()
                self.assertEqual(caught.exception.value, due)

    def test_sums_may_have_no_text(self):
        half = (6 * 10 ** 59, 1)
        net = Net(2, 1, 3, rest=[(0, half), (0, half)], sign_rows=[[], []], place_rows=[[]])
        with self.assertRaises(BadValue) as caught:
            net.text()
        self.assertEqual(caught.exception.value, (12 * 10 ** 59, 1))
        self.assertEqual(net, Net(2, 1, 3, rest=net.rest_row(), sign_rows=[[], []], place_rows=[[]]))


class BadTexts(Texts):
    def test_what_is_no_string(self):
        for value in any_values():
            self.bad(0, value)
        for value in [[SHORT], (SHORT,), SHORT.encode(), SHORT.split("\n"), Net.read(SHORT)]:
            self.bad(0, value)

    def test_first_rows(self):
        for row in [
            "", "net", "net ", "net 2", "net 2 1", "net 2 1 ", "net 2 1 3 ", "net 2 1 3 3", " net 2 1 3",
            "net  2 1 3", "net 2  1 3", "Net 2 1 3", "nets 2 1 3", "net 1 1 3", "net 6 1 3", "net 2 0 3",
            "net 2 9 3", "net 2 1 0", "net 2 1 2001", "net 2 1 -3", "net 02 1 3", "net 2 01 3",
            "net 2 1 03", "net 2 1 +3", "net 2 1 3/1", "net 2 1 x", "net 2 1 99999", "program 2 1",
            "net 2 1 " + "9" * 6000, "net " + "2" * 6000 + " 1 3", "net 2 " + "1" * 6000 + " 3",
            "net 2 1 " + "0" * 6000 + "3", "rest", "end", "net 2 1 3.", "net,2,1,3", "net 2 1\t3",
        ]:
            self.bad(0, SHORT.replace("net 2 1 3", row))
            self.bad(0, row + "\n")
            self.bad(0, row)

    def test_begin_rows(self):
        wrong = ["", " ", "x", "end", "heads", "bend", "unit 0 >", "head >", "net 2 1 3", "tell sign"]
        for at, row in [(1, "rest"), (2, "sign 0"), (3, "sign 1"), (4, "place 0")]:
            rows = SHORT.split("\n")
            others = [other for other in rows[1:5] if other != row]
            for almost in wrong + others + [
                row + " ", " " + row, row + "  0:1", row + " 0:1 ", row + " 0:1  1:1", row + "s", row[:-1],
                row.upper(), row.replace(" ", "  ") + " 0:1 0:1", row + " 3:1", row + " -1:1",
                row + " 00:1", row + " 01:1", row + " +1:1", row + " 1/1:1", row + " 0:0", row + " 0:-0",
                row + " 0:2/4", row + " 0:2/1", row + " 0:0/1", row + " 0:1/0", row + " 0:1/-2",
                row + " 0:01", row + " 0:1/02", row + " 0:+1", row + " 0:", row + " :1", row + " 0",
                row + " 0:1:1", row + " 0,1:1", row + " 1:1 0:1", row + " 0:1 0:1", row + " 0:1 2:1 1:1",
                row + " 2:1 2:-1", row + " 0:1,", row + " 0:a", row + " a:1", row + " 2000:1",
                row + " " + "1" * 6000 + ":1", row + " 0:" + "1" * 61, row + " 0:1/" + "7" * 6000,
                row + " " + "0" * 6000 + ":1", row + " 0:1\t1:1", row + " >", row + " 0:1 > 1:1",
            ]:
                self.bad(at, "\n".join(rows[:at] + [almost] + rows[at + 1:]))
                self.bad(at, "\n".join(rows[:at] + [almost, ""]))
            self.bad(at, "\n".join(rows[:at] + rows[at + 1:]))
            self.bad(at, "\n".join(rows[:at] + [""] + rows[at:]))

    def test_rows_of_signs_and_places_in_order(self):
        text = "net 3 2 4\nrest\nsign 0\nsign 1\nsign 2\nplace 0\nplace 1\nend\n"
        self.assertEqual(Net.read(text).text(), text)
        self.bad(2, text.replace("sign 0\n", ""))
        self.bad(3, text.replace("sign 1\nsign 2", "sign 2\nsign 1"))
        self.bad(4, text.replace("sign 2\n", ""))
        self.bad(5, text.replace("sign 2\n", "sign 2\nsign 3\n"))
        self.bad(3, text.replace("sign 1\n", "sign 01\n"))
        self.bad(5, text.replace("place 0\n", ""))
        self.bad(6, text.replace("place 1\n", ""))
        self.bad(7, text.replace("place 1\n", "place 1\nplace 2\n"))
        self.bad(6, text.replace("place 1\n", "place 0\n"))
        self.bad(1, text.replace("rest\n", ""))
        self.bad(5, text.replace("sign 2\n", "sign 2\nrest\n"))

    def test_stages(self):
        start = SHORT.removesuffix("end\n")
        for row in ["", " ", "head >", "unit 0 >", "heads ", " heads", "Heads", "head", "bends", "bend ",
                    "unit", "end ", " end", "End", "ends", "rest", "place 1", "heads 1", "bend heads",
                    "net 2 1 3", "stage"]:
            self.bad(5, f"{start}{row}\nend\n")
            self.bad(5, f"{start}{row}\n")
            self.bad(6, f"{start}bend\n{row}\nend\n" if row != "unit 0 >" else f"{start}heads\n{row}\n")
            self.bad(7, f"{start}bend\nheads\n{row}\nend\n" if row != "head >" else
                     f"{start}heads\nbend\n{row}\n")

    def test_heads(self):
        start = SHORT.removesuffix("end\n") + "heads\nhead >\n"
        for row in [
            "head", "head ", "head > ", "head  >", " head >", "head >>", "head > >", "head<", "Head >",
            "heads >", "head >0,0:1", "head 0,0:1>", "head 0,0:1 >  0,0:1", "head 0,0:1  > 0,0:1",
            "head 0,0:1  1,1:1 >", "head 0,0:1", "head 0:1 >", "head > 0:1", "head 0,0,0:1 >",
            "head 0,3:1 >", "head 3,0:1 >", "head > 0,3:1", "head > 3,0:1", "head -1,0:1 >",
            "head 0,-1:1 >", "head 00,0:1 >", "head 0,01:1 >", "head 0, 0:1 >", "head 0 ,0:1 >",
            "head 0,0:0 >", "head > 0,0:0", "head 0,0:2/2 >", "head 0,0:2/4 >", "head > 0,0:-0",
            "head > 0,0:01", "head 0,0: >", "head 0,0 >", "head ,0:1 >", "head 0,:1 >", "head :1 >",
            "head 1,0:1 0,1:1 >", "head 0,1:1 0,0:1 >", "head 0,0:1 0,0:1 >", "head > 1,0:1 0,2:1",
            "head > 0,2:1 0,1:1", "head > 0,1:1 0,1:2", "head 0,0:1 > 0,0:1 >", "head 0,0:1 > x",
            "unit 0 >", "unit >", "head 0 >", "head 0 0,0:1 >", "> head", ">", "head\t>", "head 0,0;1 >",
            "head " + "9" * 6000 + ",0:1 >", "head 0," + "9" * 6000 + ":1 >", "head 0,0:" + "9" * 61 + " >",
            "head 0,0:1 > 0,0:1/" + "9" * 6000, "head 1999,0:1 >",
        ]:
            self.bad(7, f"{start}{row}\nend\n")
            self.bad(7, f"{start}{row}\nhead >\nend\n")

    def test_units(self):
        start = SHORT.removesuffix("end\n") + "heads\nbend\nunit 0 >\n"
        for row in [
            "unit", "unit ", "unit 0", "unit 0 ", "unit >", "unit > 0:1", "unit 0 > ", "unit  0 >",
            "unit 0  >", " unit 0 >", "Unit 0 >", "units 0 >", "unit 0>", "unit 0 >>", "unit 0 > >",
            "unit 0 >0:1", "unit 0 0:1>", "unit 0 0:1  1:1 >", "unit 0 >  0:1", "unit -0 >", "unit 00 >",
            "unit 01 >", "unit +1 >", "unit 2/4 >", "unit 2/2 >", "unit 0/1 >", "unit 3/1 >", "unit 1/0 >",
            "unit 1/-2 >", "unit a >", "unit 1. >", "unit 0:1 >", "unit 0:1 0 >", "unit 0 0 >", "unit 0 1 0:1 >",
            "unit 0 3:1 >", "unit 0 > 3:1", "unit 0 -1:1 >", "unit 0 00:1 >", "unit 0 01:1 >", "unit 0 0:0 >",
            "unit 0 > 0:0", "unit 0 > 0:-0", "unit 0 0:2/4 >", "unit 0 0,0:1 >", "unit 0 > 0,0:1",
            "unit 0 1:1 0:1 >", "unit 0 0:1 0:1 >", "unit 0 > 2:1 1:1", "unit 0 > 2:1 2:1", "unit 0 0: >",
            "unit 0 :1 >", "unit 0 0 >", "unit 0 x >", "unit 0 > x", "unit 0 0:1 > 0:1 >", "head >",
            "unit > 0 >", "> unit 0", "unit 0 0:1", "unit\t0 >", "unit " + "1" * 61 + " >",
            "unit 1/" + "7" * 6000 + " >", "unit 0 " + "9" * 6000 + ":1 >", "unit 0 > 0:" + "9" * 6000,
        ]:
            self.bad(8, f"{start}{row}\nend\n")
            self.bad(8, f"{start}{row}\nunit 0 >\nend\n")

    def test_the_end(self):
        for text in [SHORT, FULL, LIKE_ME]:
            lines = text.count("\n")
            for behind in ["\n", " ", "x", "end\n", "end", "heads\n", " \n", "\n\n", "net 2 1 3\n", text]:
                self.bad(lines, text + behind)
            self.bad(lines - 1, text.removesuffix("\n"))
            self.bad(lines - 1, text.removesuffix("\n") + " \n")
            self.bad(lines - 1, text.removesuffix("\n") + " ")
            rows = text.split("\n")
            for many in range(lines):
                # The text ends ahead of `end`, with and without characters behind a line feed.
                whole = "".join(row + "\n" for row in rows[:many])
                self.bad(many, whole)
                self.bad(many, whole + " ")
                self.bad(many, whole + rows[many])
        self.bad(0, "")
        self.bad(0, "\n")
        self.bad(0, "net 2 1 3")

    def test_the_first_of_several(self):
        self.bad(1, SHORT.replace("rest", "rest 3:1").replace("sign 0", "sign 5") + "x")
        self.bad(2, SHORT.replace("sign 0", "sign 5").replace("end", "ends"))
        self.bad(6, SHORT.replace("end", "heads\nhead\nheads\nunit\nend") + "\n")
        self.bad(0, LIKE_ME.replace("14", "2001").replace("heads", "head"))
        # Columns are held against the width of the first line.
        self.bad(11, LIKE_ME.replace("net 2 4 14", "net 2 4 13"))
        self.bad(7, LIKE_ME.replace("net 2 4 14", "net 2 4 7"))
        self.bad(17, LIKE_ME.replace("unit -2 1:-5 8:1", "unit -2 1:-5 14:1"))

    def test_changed_by_chance(self):
        chance = random.Random(11)
        texts = [SHORT, FULL, LIKE_ME] + [Net(**grown_net(seed)).text() for seed in range(30)]
        read = 0
        for _ in range(4000):
            text = almost(chance, chance.choice(texts), "0123456789 -/:,>\nahe")
            due = first_bad(text)
            if due is None:
                self.assertEqual(Net.read(text).text(), text)
                read += 1
            else:
                self.bad(due, text)
        self.assertGreater(read, 100)


if __name__ == "__main__":
    unittest.main()
