"""The woven whole: point [50]."""

import unittest
from fractions import Fraction
from itertools import permutations
from math import gcd

from piecetables.errors import Disagree, NoReport, NoSteps
from piecetables.knots import trap
from piecetables.pieces import Piece
from piecetables.reports import Report, clash
from piecetables.schemes import steps
from piecetables.wholes import shows_whole, whole
from piecetables.woven import woven
from tests.helpers import (
    ALIKE, UNLIKE, all_steps, chance, groups, is_int, is_whole, part, random_counts, random_scheme, report_of, rows,
    scheme_sets, strange_values, sums, twisted,
)

EXAMPLE = Report(3, Piece((0, 1), (1, 1, 0, 2)), Piece((1, 2), (1, 0, 1, 2)))
TRIANGLE = Report(3, Piece((0, 1), UNLIKE), Piece((1, 2), UNLIKE), Piece((0, 2), UNLIKE))


def row_share(report, taken, row):
    """Return the share of a row, as the document tells it, for some steps."""
    told = set().union(*[piece.variables for piece in report.pieces])
    result = Fraction(1, 2 ** (report.many - len(told)))
    for piece in report.pieces:
        result *= piece[part(row, piece.variables)]
    if result == 0:
        return result
    for one, other in taken:
        piece = report.pieces[one]
        common = tuple(variable for variable in piece.variables if variable in report.pieces[other].variables)
        result /= piece(common)[part(row, common)] if common else report.total
    return result


def some_steps(report, most=8):
    """Return some steps of a report's scheme, the first ones in order."""
    return [taken for _, taken in zip(range(most), all_steps(report.scheme[1]))]


class Base(unittest.TestCase):

    def check(self, report):
        """Check that the woven whole is right, row by row and for several steps, and return it."""
        table = woven(report)
        self.assertTrue(is_whole(report, table), report.text())
        self.assertIs(shows_whole(report, table), True)
        factor, counts = table
        self.assertEqual(gcd(factor, *counts), 1)
        for taken in some_steps(report):
            for row, count in zip(rows(report.many), counts):
                self.assertEqual(Fraction(count, factor), row_share(report, taken, row))
        return table

    def check_no_steps(self, report):
        with self.assertRaises(NoSteps) as caught:
            woven(report)
        self.assertIs(type(caught.exception), NoSteps)

    def check_disagree(self, report):
        with self.assertRaises(Disagree) as caught:
            woven(report)
        self.assertIs(type(caught.exception), Disagree)
        self.assertEqual((caught.exception.first, caught.exception.second), clash(report)[:2])


class Woven(Base):

    def test_example(self):
        self.assertEqual(woven(EXAMPLE), (3, (3, 0, 1, 2, 0, 0, 2, 4)))
        self.assertEqual(woven(Report.read("variables 3\n0 1: 1 1 0 2\n1 2: 1 0 1 2\n")), woven(EXAMPLE))
        self.check(EXAMPLE)

    def test_by_hand(self):
        for report, wanted in [
            (Report(1, Piece((0,), (3, 4))), (1, (3, 4))),
            (Report(1, *[Piece((0,), (3, 4))] * 5), (1, (3, 4))),
            (Report(2, Piece((0, 1), (0, 1, 2, 3))), (1, (0, 1, 2, 3))),
            # A variable that no piece has.
            (Report(2, Piece((0,), (2, 4))), (1, (1, 1, 2, 2))),
            (Report(2, Piece((1,), (1, 2))), (2, (1, 2, 1, 2))),
            (Report(3, Piece((1,), (1, 2))), (4, (1, 1, 2, 2, 1, 1, 2, 2))),
            # No common variables.
            (Report(2, Piece((0,), (1, 3)), Piece((1,), (2, 2))), (2, (1, 1, 3, 3))),
            (Report(2, Piece((0,), (1, 2)), Piece((1,), (1, 2))), (3, (1, 2, 2, 4))),
            # A piece, and a part of it.
            (Report(2, Piece((0, 1), (0, 1, 2, 3)), Piece((0,), (1, 5))), (1, (0, 1, 2, 3))),
            (Report(2, Piece((1,), (2, 4)), Piece((0, 1), (0, 1, 2, 3))), (1, (0, 1, 2, 3))),
            # A count of the common variables that is 0.
            (Report(3, Piece((0, 1), (1, 0, 2, 0)), Piece((1, 2), (1, 2, 0, 0))), (3, (1, 2, 0, 0, 2, 4, 0, 0))),
        ]:
            self.assertEqual(self.check(report), wanted)

    def test_edges(self):
        for many in (1, 5):
            for group in [(0,), (many - 1,), (0, 1, 2), (2, 3, 4)]:
                if group[-1] < many:
                    size = 2 ** len(group)
                    for counts in [(1000,) + (0,) * (size - 1), (0,) * (size - 1) + (1,), (1000 // size,) * size]:
                        one = self.check(Report(many, Piece(group, counts)))
                        self.assertEqual(self.check(Report(many, *[Piece(group, counts)] * 5)), one)

    def test_five_pieces_of_one_variable(self):
        for counts in [(1, 0), (500, 500), (999, 1), (1, 2)]:
            report = Report(5, *[Piece((variable,), counts) for variable in range(5)])
            factor, table = self.check(report)
            total = sum(counts)
            self.assertEqual(Fraction(table[0], factor), Fraction(counts[0] ** 5, total ** 4))

    def test_totals_of_a_thousand(self):
        source = chance(51)
        for _ in range(20):
            counts = [source.randrange(50) for _ in range(31)]
            counts.append(1000 - sum(counts))
            if counts[-1] >= 0:
                self.check(report_of(5, counts, (0, 1, 2), (1, 2, 3), (2, 3, 4), (1, 2), (0,)))
                self.check(report_of(5, counts, (0, 1), (1, 2), (2, 3), (3, 4)))
                self.check(report_of(5, counts, (0, 4), (1, 4), (2, 4), (3, 4), (4,)))

    def test_random_reports(self):
        source = chance(52)
        tried = 0
        while tried < 200:
            many, chosen = random_scheme(source)
            report = report_of(many, random_counts(source, many), *chosen)
            if steps(report.scheme) is None:
                self.check_no_steps(report)
            else:
                tried += 1
                self.check(report)

    def test_all_sets_of_groups(self):
        counts = (3, 0, 1, 2, 5, 1, 0, 0)
        for many, chosen in scheme_sets(3, 3):
            report = report_of(many, counts, *chosen)
            if next(all_steps(chosen), None) is None:
                self.check_no_steps(report)
            else:
                self.check(report)

    def test_pieces_that_agree_but_come_from_no_table(self):
        source = chance(53)
        tried = 0
        for _ in range(300):
            many, chosen = random_scheme(source)
            report = report_of(many, random_counts(source, many), *chosen)
            report = Report(many, *[twisted(source, piece) for piece in report.pieces])
            if clash(report) is not None:
                self.check_disagree(report)
            elif steps(report.scheme) is not None:
                tried += 1
                self.check(report)
        self.assertGreater(tried, 80)

    def test_pieces_in_another_order(self):
        source = chance(54)
        reports = [EXAMPLE]
        while len(reports) < 30:
            many, chosen = random_scheme(source)
            report = report_of(many, random_counts(source, many), *chosen[:4])
            if steps(report.scheme) is not None:
                reports.append(report)
        for report in reports:
            table = woven(report)
            for pieces in permutations(report.pieces):
                self.assertEqual(woven(Report(report.many, *pieces)), table)

    def test_a_piece_once_more(self):
        source = chance(55)
        for _ in range(30):
            many, chosen = random_scheme(source)
            report = report_of(many, random_counts(source, many), *chosen[:4])
            if steps(report.scheme) is not None:
                table = woven(report)
                for piece in report.pieces:
                    self.assertEqual(self.check(report + piece), table)
                    self.assertEqual(self.check(report + piece(piece.variables[:1])), table)

    def test_sums_of_the_woven_whole(self):
        source = chance(56)
        tried = 0
        for _ in range(60):
            many, chosen = random_scheme(source)
            report = report_of(many, random_counts(source, many), *chosen[:4])
            if steps(report.scheme) is None:
                continue
            factor, counts = woven(report)
            if factor * report.total <= 1000:
                tried += 1
                for group in groups(many):
                    more = Report(many, *[piece * factor for piece in report.pieces])
                    more = more + Piece(group, sums(many, counts, group))
                    self.assertIs(shows_whole(more, (1, counts)), True)
                    self.assertEqual(whole(more)[0], "whole")
        self.assertGreater(tried, 20)


class Refused(Base):

    def test_no_report(self):
        for thing in [*strange_values(), EXAMPLE.pieces, EXAMPLE.text(), EXAMPLE.pieces[0], EXAMPLE.scheme]:
            if not isinstance(thing, Report):
                with self.assertRaises(NoReport) as caught:
                    woven(thing)
                self.assertIs(type(caught.exception), NoReport)

    def test_disagree(self):
        ones = Piece((0,), (1, 1))
        for report, numbers in [
            (Report(1, ones, Piece((0,), (2, 0))), (0, 1)),
            (Report(2, ones, Piece((1,), (1, 1)), Piece((0,), (2, 0))), (0, 2)),
            (Report(2, Piece((1,), (2, 0)), ones, Piece((0, 1), (1, 0, 0, 1)), Piece((0,), (2, 0))), (0, 2)),
            (Report(2, Piece((1,), (2, 0)), ones, Piece((0, 1), (2, 0, 0, 0)), Piece((0,), (2, 0))), (1, 2)),
        ]:
            self.check_disagree(report)
            self.assertEqual(clash(report)[:2], numbers)

    def test_no_steps(self):
        for scheme in [
            TRIANGLE.scheme, (4, ((0, 1), (1, 2), (2, 3), (0, 3))),
            (5, ((0, 1), (1, 2), (2, 3), (3, 4), (0, 4))), (4, ((0, 1, 2), (0, 1, 3), (0, 2, 3), (1, 2, 3))),
        ]:
            self.check_no_steps(trap(scheme))
        # There is a whole, but no steps.
        self.check_no_steps(Report(3, *[Piece(pair, ALIKE) for pair in TRIANGLE.scheme[1]]))

    def test_disagree_before_no_steps(self):
        report = Report(3, Piece((0, 1), UNLIKE), Piece((1, 2), UNLIKE), Piece((0, 2), (2, 0, 0, 0)))
        self.assertIsNone(steps(report.scheme))
        self.check_disagree(report)
        self.check_disagree(report + Piece((0,), (0, 2)))

    def test_again_and_unchanged(self):
        for report in [EXAMPLE, Report(5, Piece((0, 1, 2), (1, 2, 3, 4, 5, 6, 7, 8)), Piece((3,), (30, 6)))]:
            before = report.text()
            table = woven(report)
            self.assertEqual((woven(report), woven(Report.read(before)), report.text()), (table, table, before))
        for report in [TRIANGLE, Report(1, Piece((0,), (1, 0)), Piece((0,), (0, 1)))]:
            before = report.text()
            for _ in range(2):
                with self.assertRaises((NoSteps, Disagree)):
                    woven(report)
            self.assertEqual(report.text(), before)

    def test_kinds(self):
        table = woven(EXAMPLE)
        self.assertTrue(type(table) is tuple and len(table) == 2 and is_int(table[0]) and type(table[1]) is tuple)
        self.assertTrue(all(map(is_int, table[1])))
        table = woven(Report(2, Piece((0,), (0, 1))))
        self.assertEqual(table, (2, (0, 0, 1, 1)))
        self.assertTrue(all(map(is_int, table[1])))


if __name__ == "__main__":
    unittest.main()
