"""All wholes with the factor 1: tables of point [70], and what point [90] says of them."""

import inspect
import unittest
from math import comb, gcd

from piecetables.errors import NoReport, TooMany
from piecetables.pieces import Piece
from piecetables.reports import Report, clash
from piecetables.tables import tables
from piecetables.wholes import shows_whole, whole
from tests.helpers import (
    ALIKE, UNLIKE, chance, groups, has_whole, is_int, is_whole, random_piece, report_of, scheme_sets, strange_values,
    sums, tuples_of,
)

TWO = Report(2, Piece((0,), (1, 3)), Piece((1,), (2, 2)))
EXAMPLE = Report(3, Piece((0, 1), (1, 1, 0, 2)), Piece((1, 2), (1, 0, 1, 2)))
TRIANGLE = Report(3, Piece((0, 1), UNLIKE), Piece((1, 2), UNLIKE), Piece((0, 2), UNLIKE))


def tables_by_sums(many, chosen, total):
    """Return, for the sums that tables of a total have for some groups, all these tables, ascending."""
    found = {}
    for counts in tuples_of(2 ** many, total):
        found.setdefault(tuple(sums(many, counts, group) for group in chosen), []).append((1, counts))
    return found


class Base(unittest.TestCase):

    def check(self, report):
        """Check that all tables of the total that are wholes are yielded, ascending, and no other, and return them."""
        wanted = [(1, counts) for counts in tuples_of(2 ** report.many, report.total)]
        wanted = [table for table in wanted if is_whole(report, table)]
        found = list(tables(report))
        self.assertEqual(found, wanted, report.text())
        self.assertEqual(found, sorted(found))
        if found:
            self.assertIs(has_whole(report), True)
        return found

    def check_too_many(self, report, amount, limit):
        for action in [next, list]:
            with self.assertRaises(TooMany) as caught:
                action(tables(report))
            self.assertIs(type(caught.exception), TooMany)
            self.assertEqual((caught.exception.amount, caught.exception.limit), (amount, limit))


class Tables(Base):

    def test_by_hand(self):
        self.assertEqual(self.check(TWO), [(1, (0, 1, 2, 1)), (1, (1, 0, 1, 2))])
        self.assertEqual(self.check(EXAMPLE), [(1, (1, 0, 0, 1, 0, 0, 1, 1)), (1, (1, 0, 1, 0, 0, 0, 0, 2))])
        self.assertEqual(self.check(TRIANGLE), [])
        self.assertEqual(self.check(Report(1, Piece((0,), (3, 4)))), [(1, (3, 4))])
        self.assertEqual(self.check(Report(2, Piece((0, 1), (0, 1, 2, 3)))), [(1, (0, 1, 2, 3))])
        self.assertEqual(self.check(Report(2, Piece((1,), (1, 1)))), [
            (1, (0, 0, 1, 1)), (1, (0, 1, 1, 0)), (1, (1, 0, 0, 1)), (1, (1, 1, 0, 0)),
        ])
        self.assertEqual(self.check(Report(3, *[Piece(pair, ALIKE) for pair in [(0, 1), (1, 2), (0, 2)]])), [
            (1, (1, 0, 0, 0, 0, 0, 0, 1)),
        ])
        self.assertEqual(self.check(Report(3, *[Piece(pair, (1, 1, 1, 1)) for pair in [(0, 1), (1, 2), (0, 2)]])), [
            (1, (0, 1, 1, 0, 1, 0, 0, 1)), (1, (1, 0, 0, 1, 0, 1, 1, 0)),
        ])

    def test_a_total_of_one(self):
        self.assertEqual(self.check(Report(1, Piece((0,), (0, 1)))), [(1, (0, 1))])
        self.assertEqual(self.check(Report(2, Piece((0,), (0, 1)))), [(1, (0, 0, 0, 1)), (1, (0, 0, 1, 0))])
        self.assertEqual(self.check(Report(3, Piece((0, 1, 2), (0, 0, 0, 0, 0, 1, 0, 0)))), [
            (1, (0, 0, 0, 0, 0, 1, 0, 0)),
        ])
        self.assertEqual(len(self.check(Report(3, Piece((1,), (1, 0))))), 4)

    def test_pieces_that_disagree(self):
        for report in [
            Report(1, Piece((0,), (1, 0)), Piece((0,), (0, 1))), Report(2, Piece((0, 1), ALIKE), Piece((1,), (2, 0))),
            Report(3, Piece((0, 1, 2), (3, 1, 1, 1, 1, 1, 1, 3)), Piece((0, 2), (4, 2, 1, 5))),
        ]:
            self.assertIsNotNone(clash(report))
            self.assertEqual(self.check(report), [])

    def test_all_reports_of_small_tables(self):
        for many, most, total in [(1, 3, 4), (2, 3, 3), (2, 2, 6), (3, 2, 2), (3, 1, 4)]:
            for _, chosen in scheme_sets(many, most):
                for counts, wanted in tables_by_sums(many, chosen, total).items():
                    self.assertEqual(list(tables(Report(many, *map(Piece, chosen, counts)))), wanted)

    def test_three_pairs_of_three_variables(self):
        pairs = [(0, 1), (0, 2), (1, 2)]
        for total in (1, 3, 5):
            for order in [pairs, pairs[::-1], [*pairs, (1,), (0, 1)]]:
                for counts, wanted in tables_by_sums(3, order, total).items():
                    self.assertEqual(list(tables(Report(3, *map(Piece, order, counts)))), wanted)

    def test_totals_of_twelve(self):
        for chosen in [[(0, 1), (0, 2), (1, 2)], [(1,), (0, 2)]]:
            found = tables_by_sums(3, chosen, 12)
            self.assertEqual(sum(map(len, found.values())), comb(19, 7))
            for counts, wanted in list(found.items())[::97]:
                self.assertEqual(list(tables(Report(3, *map(Piece, chosen, counts)))), wanted)

    def test_as_many_as_there_can_be(self):
        for variable in range(3):
            for most in (6, 12):
                report = Report(3, *[Piece((variable,), (12 - most, most))] * 5)
                found = list(tables(report))
                self.assertEqual(len(found), comb(most + 3, 3) * comb(15 - most, 3))
                self.assertTrue(all(one < other for one, other in zip(found, found[1:])))
                self.assertTrue(all(is_whole(report, table) for table in found[::50]))

    def test_random_pieces(self):
        source = chance(75)
        numbers = set()
        for _ in range(150):
            many = source.randint(1, 3)
            total = source.randint(1, 4)
            size = source.randint(1, 3)
            report = Report(many, *[random_piece(source, source.choice(groups(many)), total) for _ in range(size)])
            numbers.add(len(self.check(report)))
        self.assertTrue({0, 1, 2} <= numbers)

    def test_a_whole_where_there_is_a_table(self):
        source = chance(76)
        for _ in range(150):
            many = source.randint(1, 3)
            total = source.randint(1, 12)
            pieces = [random_piece(source, source.choice(groups(many)), total) for _ in range(source.randint(1, 5))]
            report = Report(many, *pieces)
            found = list(tables(report))
            if found:
                self.assertEqual(whole(report)[0], "whole")
            for table in found[:5]:
                self.assertIs(shows_whole(report, table), True)

    def test_no_common_divisor(self):
        for table in tables(Report(2, Piece((0,), (2, 2)), Piece((1,), (4, 0)))):
            self.assertEqual(gcd(table[0], *table[1]), 1)

    def test_sums_of_a_table(self):
        source = chance(77)
        for _ in range(30):
            counts = [0] * 8
            for _ in range(12):
                counts[source.randrange(8)] += 1
            for chosen in [[(0, 1), (1, 2)], [(0, 1), (0, 2), (1, 2)], [(0,), (1,), (2,)], [(0, 1, 2)]]:
                report = report_of(3, counts, *chosen)
                found = list(tables(report))
                self.assertIn((1, tuple(counts)), found)
                more = report + Piece((0, 2), sums(3, counts, (0, 2)))
                fewer = list(tables(more))
                self.assertIn((1, tuple(counts)), fewer)
                self.assertEqual(fewer, [table for table in found if is_whole(more, table)])


class Refused(Base):

    def test_no_report(self):
        for thing in [*strange_values(), TWO.pieces, TWO.text(), TWO.scheme, [TWO], (TWO,)]:
            if isinstance(thing, Report):
                continue
            for action in [next, list]:
                with self.assertRaises(NoReport) as caught:
                    action(tables(thing))
                self.assertIs(type(caught.exception), NoReport)

    def test_more_than_three_variables(self):
        for many in (4, 5):
            for total in (1, 12, 13, 1000):
                self.check_too_many(Report(many, Piece((0,), (total, 0))), many, 3)
        self.check_too_many(Report(4, Piece((0, 1, 2), (1,) * 8), Piece((0, 1, 2), (8,) + (0,) * 7)), 4, 3)

    def test_a_total_of_more_than_twelve(self):
        for many in (1, 2, 3):
            for total in (13, 14, 1000):
                self.check_too_many(Report(many, Piece((0,), (total, 0))), total, 12)
            self.assertIn((1, (12,) + (0,) * (2 ** many - 1)), list(tables(Report(many, Piece((0,), (12, 0))))))
        self.check_too_many(Report(1, Piece((0,), (13, 0)), Piece((0,), (0, 13))), 13, 12)
        self.check_too_many(TWO | Report(1, Piece((0,), (4, 0))) | Report(1, Piece((0,), (4, 0))), 4, 3)

    def test_many_pieces_are_not_too_many(self):
        self.assertEqual(list(tables(Report(1, *[Piece((0,), (5, 7))] * 5))), [(1, (5, 7))])


class Rules(Base):

    def test_generator(self):
        found = tables(TWO)
        self.assertTrue(inspect.isgenerator(found))
        self.assertEqual(next(found), (1, (0, 1, 2, 1)))
        self.assertEqual(next(found), (1, (1, 0, 1, 2)))
        self.assertIsNone(next(found, None))

    def test_generators_beside_each_other(self):
        first, second = tables(TWO), tables(TWO)
        self.assertEqual([*zip(first, second)], [(table, table) for table in tables(TWO)])

    def test_kinds(self):
        for factor, counts in [*tables(TWO), *tables(EXAMPLE), *tables(Report(1, Piece((0,), (0, 1))))]:
            self.assertTrue(is_int(factor) and type(counts) is tuple and all(map(is_int, counts)))
        self.assertTrue(all(type(table) is tuple for table in tables(TWO)))

    def test_again_and_unchanged(self):
        for report in [TWO, EXAMPLE, TRIANGLE, Report(4, Piece((0,), (1, 0))), Report(1, Piece((0,), (13, 0)))]:
            before = report.text()
            answers = []
            for other in [report, report, Report.read(before)]:
                try:
                    answers.append(list(tables(other)))
                except TooMany as error:
                    answers.append((error.amount, error.limit))
            self.assertEqual(answers, [answers[0]] * 3)
            self.assertEqual(report.text(), before)


if __name__ == "__main__":
    unittest.main()
