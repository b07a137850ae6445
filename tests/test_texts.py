"""The text of a report: point [13]."""

import re
import unittest

from piecetables.errors import NoText
from piecetables.pieces import Piece
from piecetables.reports import Report
from tests.helpers import chance, groups, random_report, strange_values

EXAMPLE = "variables 3\n0 1: 1 1 0 2\n1 2: 1 0 1 2\n"
SIGNS = "\n :0123456789avZ~+-.,_"


def is_text(text):
    """Tell by a plain look at each sign whether a text is the text of a report."""
    number = "(0|[1-9][0-9]{0,3})"
    line = f"{number}( {number}){{0,2}}:( {number})+\n"
    if not re.fullmatch(f"variables [1-5]\n({line}){{1,5}}", text):
        return False
    many = int(text[10])
    totals = set()
    for words in text.split("\n")[1:-1]:
        left, right = words.split(":")
        group = tuple(map(int, left.split()))
        counts = tuple(map(int, right.split()))
        if group not in groups(many) or len(counts) != 2 ** len(group) or not 1 <= sum(counts) <= 1000:
            return False
        totals.add(sum(counts))
    return len(totals) == 1


class Writing(unittest.TestCase):

    def test_example(self):
        report = Report(3, Piece((0, 1), (1, 1, 0, 2)), Piece((1, 2), (1, 0, 1, 2)))
        self.assertEqual(report.text(), EXAMPLE)
        self.assertEqual(Report.read(EXAMPLE), report)

    def test_edges(self):
        self.assertEqual(Report(1, Piece((0,), (1000, 0))).text(), "variables 1\n0: 1000 0\n")
        self.assertEqual(
            Report(5, *[Piece((0, 2, 4), (1, 0, 0, 10, 0, 0, 0, 989))] * 5).text(),
            "variables 5\n" + "0 2 4: 1 0 0 10 0 0 0 989\n" * 5,
        )

    def test_there_and_back(self):
        source = chance(3)
        for _ in range(100):
            report = random_report(source)
            self.assertTrue(is_text(report.text()))
            self.assertEqual(Report.read(report.text()), report)
            self.assertEqual(report.text(), report.text())

    def test_kinds(self):
        report = Report.read(EXAMPLE)
        self.assertIs(type(report), Report)
        self.assertIs(type(report.pieces[0]), Piece)
        self.assertEqual(report.scheme, (3, ((0, 1), (1, 2))))


class Reading(unittest.TestCase):

    def check(self, text):
        if is_text(text):
            self.assertEqual(Report.read(text).text(), text)
        else:
            with self.assertRaises(NoText):
                Report.read(text)

    def test_signs_left_out_put_in_changed_exchanged(self):
        for text in (EXAMPLE, "variables 5\n0 2 4: 1 0 0 10 0 0 0 989\n4: 990 10\n", "variables 1\n0: 1000 0\n"):
            for at in range(len(text) + 1):
                for sign in SIGNS:
                    self.check(text[:at] + sign + text[at:])
                    self.check(text[:at] + sign + text[at + 1:])
                self.check(text[:at] + text[at + 1:])
                self.check(text[:at] + text[at + 1:at + 2] + text[at:at + 1] + text[at + 2:])
                self.check(text[:at])
                self.check(text[at:])

    def test_lines_left_out_put_in_changed_exchanged(self):
        lines = ["variables 3\n", "0 1: 1 1 0 2\n", "1 2: 1 0 1 2\n", "2: 2 2\n"]
        more = [*lines, "\n", " \n", "variables 1\n", "0 1:\n", ": 1 1\n", "0 1\n", "0: 4 0\n", "2: 1 2\n", "3: 2 2\n"]
        for at in range(len(lines) + 1):
            for line in more:
                self.check("".join([*lines[:at], line, *lines[at:]]))
                self.check("".join([*lines[:at], line, *lines[at + 1:]]))
            self.check("".join([*lines[:at], *lines[at + 1:]]))
            for other in range(at):
                swapped = list(lines)
                swapped[other:other + 1], swapped[at:at + 1] = lines[at:at + 1], lines[other:other + 1]
                self.check("".join(swapped))

    def test_too_many_lines(self):
        line = "0: 1 1\n"
        self.assertEqual(len(Report.read("variables 5\n" + line * 5)), 5)
        self.check("variables 5\n" + line * 6)
        self.check("variables 5\n" + line * 100)
        self.check("variables 6\n" + line)
        self.check("variables 0\n" + line)
        self.check("variables 5\n")

    def test_other_writings(self):
        for text in [
            "", "\n", "variables", "variables \n", "variables 3", EXAMPLE[:-1], EXAMPLE + "\n", "\n" + EXAMPLE,
            EXAMPLE.upper(), EXAMPLE.replace("\n", " "), EXAMPLE.replace(" ", "  "), EXAMPLE.replace(": ", ":"),
            EXAMPLE.replace(":", " :"), EXAMPLE.replace(":", ""), EXAMPLE.replace("\n", " \n"),
            EXAMPLE.replace("\n", "\n "), EXAMPLE.replace("1", "01"), EXAMPLE.replace("1", "+1"), EXAMPLE * 2,
            EXAMPLE.replace("1 1", "1 1.0"), EXAMPLE.replace("1 1", "1 -1"), EXAMPLE.replace("3", "three"),
            "variables 03\n0: 1 1\n", "variables 3 \n0: 1 1\n", "variables 3\n0: 1 1 \n", "variables  3\n0: 1 1\n",
            "3\n0: 1 1\n", "variables variables 3\n0: 1 1\n", "variable 3\n0: 1 1\n", "variables 3\n0,1: 1 1 0 2\n",
            "variables 3\n1 0: 1 1 0 2\n", "variables 3\n0 0: 1 1 0 2\n", "variables 3\n0 1 2 3: 1 1 0 2\n",
            "variables 3\n0 3: 1 1 0 2\n", "variables 3\n0: 0 0\n", "variables 3\n0: 1000 1\n",
            "variables 3\n0: 1001 0\n",
            "variables 3\n0: 1 1: 1\n", "variables 3\n0: 1\n", "variables 3\n0: 1 1 1\n", "variables 3\n0: 00 1\n",
            "variables 3\n0: 0001 1\n", "variables 3\n0: " + "9" * 900 + " 1\n",
            "variables " + "9" * 900 + "\n0: 1 1\n", "variables 3\n" + "9" * 900 + ": 1 1\n",
            "variables 3\n0: 1 1\n1: 1 2\n", "0: 1 1\n", "0: 1 1\nvariables 3\n",
        ]:
            self.assertFalse(is_text(text))
            with self.assertRaises(NoText):
                Report.read(text)

    def test_any_value(self):
        for thing in [*strange_values(), Report.read(EXAMPLE), (EXAMPLE,), [EXAMPLE], EXAMPLE.split("\n"), 3]:
            with self.assertRaises(NoText):
                Report.read(thing)


if __name__ == "__main__":
    unittest.main()
