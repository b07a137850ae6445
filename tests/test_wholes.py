"""A whole or a bet: points [20] and [21], the first half of point [1], and what point [90] says of them."""

import unittest
from math import gcd

from piecetables.errors import NoReport
from piecetables.pieces import Piece
from piecetables.reports import Report, clash
from piecetables.wholes import shows_bet, shows_whole, whole
from tests.helpers import (
    ALIKE, UNLIKE, chance, groups, is_bet, is_int, is_whole, nested, random_counts, random_report, report_of, rows,
    strange_values, sums, twisted, variants,
)

TRIANGLE = Report(3, Piece((0, 1), UNLIKE), Piece((1, 2), UNLIKE), Piece((0, 2), UNLIKE))
EXAMPLE = Report(3, Piece((0, 1), (1, 1, 0, 2)), Piece((1, 2), (1, 0, 1, 2)))


def ring(size):
    """Return the report of pairs around a ring in which only the last pair is unlike."""
    pieces = [Piece((variable, variable + 1), ALIKE) for variable in range(size - 1)]
    return Report(size, *pieces, Piece((0, size - 1), UNLIKE))


def shell(size):
    """Return the report of all groups without one of three or four variables, counted as in point [42]."""
    counts = [sum(row) % 2 for row in rows(size)]
    counts[rows(size).index((0,) * size)] = -1
    counts[rows(size).index((1, 1, 1, 0)[:size])] = 0
    everyone = tuple(range(size))
    parts = [tuple(variable for variable in everyone if variable != left) for left in everyone]
    return Report(size, *[Piece(group, sums(size, counts, group)) for group in parts])


class Base(unittest.TestCase):

    def check(self, report):
        """Check that the answer is right, row by row, and return its word."""
        answer = whole(report)
        self.assertIs(type(answer), tuple)
        word, shown = answer
        if word == "whole":
            self.assertTrue(is_whole(report, shown))
            self.assertEqual(gcd(shown[0], *shown[1]), 1)
        else:
            self.assertEqual(word, "bet")
            self.assertTrue(is_bet(report, shown))
        self.assertIs(shows_whole(report, shown), word == "whole")
        self.assertIs(shows_bet(report, shown), word == "bet")
        return word

    def check_whole(self, report):
        self.assertEqual(self.check(report), "whole")

    def check_bet(self, report):
        self.assertEqual(self.check(report), "bet")


class Session(unittest.TestCase):

    def test_first_half(self):
        self.assertEqual(whole(TRIANGLE)[0], "bet")
        self.assertIs(shows_bet(TRIANGLE, ((0, -1, -1, 0), (1, 0, 0, 1), (0, 0, 0, 0))), False)
        self.assertIs(shows_bet(TRIANGLE, ((1, 0, 0, 1), (1, 0, 0, 1), (0, -1, -1, 0))), True)

    def test_tables_that_the_document_shows(self):
        two = Report(2, Piece((0,), (1, 3)), Piece((1,), (2, 2)))
        self.assertIs(shows_whole(two, (1, (0, 1, 2, 1))), True)
        self.assertIs(shows_whole(two, (1, (1, 0, 1, 2))), True)
        self.assertIs(shows_whole(EXAMPLE, (3, (3, 0, 1, 2, 0, 0, 2, 4))), True)


class ReportsOfATable(Base):

    def test_examples(self):
        self.check_whole(EXAMPLE)
        self.check_whole(Report(2, Piece((0,), (1, 3)), Piece((1,), (2, 2))))

    def test_edges(self):
        for many in (1, 2, 3, 4, 5):
            for group in groups(many):
                size = 2 ** len(group)
                for counts in [(1000,) + (0,) * (size - 1), (0,) * (size - 1) + (1,), (1000 // size,) * size]:
                    self.check_whole(Report(many, Piece(group, counts)))
                    self.check_whole(Report(many, *[Piece(group, counts)] * 5))

    def test_tables(self):
        source = chance(4)
        for _ in range(300):
            self.check_whole(random_report(source))

    def test_five_pieces_of_three_of_five_variables(self):
        source = chance(5)
        triples = [group for group in groups(5) if len(group) == 3]
        for _ in range(60):
            self.check_whole(report_of(5, random_counts(source, 5), *source.sample(triples, 5)))

    def test_one_answer_a_thousand_times(self):
        for place in (0, 13, 31):
            counts = [0] * 32
            counts[place] = 1000
            self.check_whole(report_of(5, counts, (0, 1, 2), (1, 2, 3), (2, 3, 4), (0, 3, 4), (0, 1, 4)))

    def test_a_whole_that_needs_a_factor(self):
        even = (1, 1, 1, 1)
        pairs = [Piece(group, even) for group in [(0, 1), (0, 2), (1, 2), (2, 3)]]
        report = Report(4, Piece((0, 1, 3), (0, 1, 1, 0, 1, 0, 0, 1)), *pairs)
        self.check_whole(report)
        # No table of four rows has these pieces, but one of eight has them twice.
        self.assertGreater(whole(report)[1][0], 1)
        self.assertIs(shows_whole(report, (2, (0, 1, 0, 1, 1, 0, 1, 0, 1, 0, 1, 0, 0, 1, 0, 1))), True)


class ReportsThatDisagree(Base):

    def test_two_pieces(self):
        self.check_bet(Report(1, Piece((0,), (1, 0)), Piece((0,), (0, 1))))
        self.check_bet(Report(1, Piece((0,), (999, 1)), Piece((0,), (1000, 0))))
        self.check_bet(Report(2, Piece((0, 1), ALIKE), Piece((0, 1), UNLIKE)))
        self.check_bet(Report(5, Piece((0, 1, 2), (1,) * 8), Piece((2, 3, 4), (1, 1, 1, 2, 1, 1, 1, 0))))

    def test_random_pieces(self):
        source = chance(6)
        words = []
        for _ in range(200):
            many = source.randint(1, 5)
            total = source.choice([1, 2, 5, 1000])
            pieces = []
            for _ in range(source.randint(2, 5)):
                group = source.choice(groups(many))
                counts = [0] * 2 ** len(group)
                for _ in range(total):
                    counts[source.randrange(len(counts))] += 1
                pieces.append(Piece(group, tuple(counts)))
            report = Report(many, *pieces)
            words.append(self.check(report))
            if clash(report) is not None:
                self.assertEqual(words[-1], "bet")
        self.assertIn("whole", words)
        self.assertIn("bet", words)


class ReportsThatAgreeWithoutAWhole(Base):

    def test_rings_and_shells(self):
        for report in [TRIANGLE, ring(3), ring(4), ring(5), shell(3), shell(4)]:
            self.assertIsNone(clash(report))
            self.check_bet(report)

    def test_a_thousand_times(self):
        for report in [TRIANGLE, ring(5), shell(4)]:
            factor = 1000 // report.total
            self.check_bet(Report(report.many, *[piece * factor for piece in report.pieces]))

    def test_by_one_answer_of_many(self):
        # Nobody answers more than two of the three pairs unlike: 500 answers have at most 1,000 unlike pairs.
        for unlike, word in [((83, 167, 167, 83), "bet"), ((84, 166, 166, 84), "whole")]:
            report = Report(3, *[Piece(pair, unlike) for pair in [(0, 1), (0, 2), (1, 2)]])
            self.assertIsNone(clash(report))
            self.assertEqual(self.check(report), word)

    def test_twisted_pieces(self):
        source = chance(7)
        words = []
        for _ in range(200):
            many, size = source.choice([(3, 2), (4, 2), (5, 2), (4, 3), (5, 3)])
            alike = [group for group in groups(many) if len(group) == size]
            report = report_of(many, random_counts(source, many), *source.sample(alike, min(5, len(alike))))
            report = Report(many, *[twisted(source, piece) for piece in report.pieces])
            if clash(report) is None:
                words.append(self.check(report))
        self.assertGreater(words.count("bet"), 20)
        self.assertGreater(words.count("whole"), 20)


class ShowsWhole(unittest.TestCase):

    def test_any_whole(self):
        two = Report(2, Piece((0,), (1, 3)), Piece((1,), (2, 2)))
        self.assertIs(shows_whole(two, (2, (1, 1, 3, 3))), True)
        # A common divisor does not matter here.
        self.assertIs(shows_whole(two, (2, (0, 2, 4, 2))), True)
        self.assertIs(shows_whole(two, (10 ** 12, (0, 10 ** 12, 2 * 10 ** 12, 10 ** 12))), True)

    def test_what_is_none(self):
        two = Report(2, Piece((0,), (1, 3)), Piece((1,), (2, 2)))
        for thing in [
            (1, (1, 1, 1, 1)), (2, (0, 1, 2, 1)), (0, (0, 0, 0, 0)), (-1, (0, -1, -2, -1)), (1, (2, -1, 0, 3)),
            (True, (0, 1, 2, 1)), (1, (False, 1, 2, 1)), (1, (0, True, 2, 1)), (1, [0, 1, 2, 1]), [1, (0, 1, 2, 1)],
            (1, 0, 1, 2, 1), ((1, (0, 1, 2, 1)),), (1, (0, 1, 2)), (1, (0, 1, 2, 1, 0)), (1, (0, 1, 2, 1), 1), (1,),
            ((0, 1, 2, 1), 1), (1, (0, 1, 2, None)), (1, "0121"), ("1", (0, 1, 2, 1)), ("whole", (1, (0, 1, 2, 1))),
            (1, {0: 0, 1: 1, 2: 2, 3: 1}), {0: 1, 1: (0, 1, 2, 1)}, (1, ((0, 1), (2, 1))), (1, two), two, None,
            (1, (-1, 2, 3, 0)), (1, (1, 2, 0, 1)), (None, (0, 1, 2, 1)),
        ]:
            self.assertIs(shows_whole(two, thing), False)

    def test_any_value(self):
        for report in [EXAMPLE, TRIANGLE, Report(2, Piece((0, 1), (0, 1, 2, 3)))]:
            for thing in strange_values():
                self.assertIs(shows_whole(report, thing), is_whole(report, thing))

    def test_changed_wholes(self):
        source = chance(8)
        reports = [EXAMPLE, Report(1, Piece((0,), (1, 0))), Report(1, Piece((0,), (1000, 0)))]
        for report in [*reports, *[random_report(source) for _ in range(10)]]:
            answer = whole(report)
            self.assertIs(shows_whole(report, answer), False)
            for thing in variants(answer[1]):
                self.assertIs(shows_whole(report, thing), is_whole(report, thing), repr(thing))

    def test_bets_are_no_wholes(self):
        self.assertIs(shows_whole(TRIANGLE, whole(TRIANGLE)[1]), False)

    def test_no_report(self):
        for thing in strange_values():
            if not isinstance(thing, Report):
                for shown in [(1, (0, 1, 2, 1)), None, TRIANGLE]:
                    with self.assertRaises(NoReport):
                        shows_whole(thing, shown)


class ShowsBet(unittest.TestCase):

    def test_any_bet(self):
        self.assertIs(shows_bet(TRIANGLE, ((2, 0, 0, 2), (2, 0, 0, 2), (0, -2, -2, 0))), True)
        self.assertIs(shows_bet(TRIANGLE, ((1, -1, -1, 1), (1, 0, 0, 1), (1, 0, 0, 1))), True)
        big = 10 ** 12
        self.assertIs(shows_bet(TRIANGLE, ((big, 0, 0, big), (big, 0, 0, big), (0, -big, -big, 0))), True)

    def test_rows_that_bring_too_little(self):
        self.assertIs(shows_bet(TRIANGLE, ((0, -1, -1, 0), (1, 0, 0, 1), (1, 0, 0, 0))), False)
        self.assertIs(shows_bet(TRIANGLE, ((1, -2, -1, 1), (1, 0, 0, 1), (1, 0, 0, 1))), False)
        self.assertIs(shows_bet(TRIANGLE, ((1, -1, -1, 1), (1, 0, 0, 1), (1, 0, 0, 0))), False)

    def test_pieces_that_bring_too_much(self):
        # Every row brings 0 or more, and the pieces bring 0 or more, too.
        self.assertIs(shows_bet(TRIANGLE, ((0, 0, 0, 0), (0, 0, 0, 0), (0, 0, 0, 0))), False)
        self.assertIs(shows_bet(TRIANGLE, ((1, 0, 0, 1), (1, 0, 0, 1), (1, 0, 0, 1))), False)
        self.assertIs(shows_bet(TRIANGLE, ((1, 1, 1, 1), (1, 0, 0, 1), (0, -1, -1, 0))), False)

    def test_what_is_none(self):
        for thing in [
            ((True, 0, 0, 1), (1, 0, 0, 1), (0, -1, -1, 0)), ((1, 0, 0, 1), (1, 0, 0, 1), (False, -1, -1, 0)),
            ([1, 0, 0, 1], (1, 0, 0, 1), (0, -1, -1, 0)), [(1, 0, 0, 1), (1, 0, 0, 1), (0, -1, -1, 0)],
            ((1, 0, 0, 1), (1, 0, 0, 1)), ((1, 0, 0, 1), (1, 0, 0, 1), (0, -1, -1, 0), (0, 0, 0, 0)),
            ((1, 0, 0, 1), (1, 0, 0, 1), (0, -1, -1)), ((1, 0, 0, 1), (1, 0, 0, 1), (0, -1, -1, 0, 0)),
            ((1, 0, 0, 1), (1, 0, 0, 1), None), (1, 0, 0, 1, 1, 0, 0, 1, 0, -1, -1, 0), (), None, TRIANGLE,
            ((1, 0, 0, 1), (1, 0, 0, 1), ("0", -1, -1, 0)), ((1, 0, 0, 1), (1, 0, 0, 1), (None, -1, -1, 0)),
            ("bet", ((1, 0, 0, 1), (1, 0, 0, 1), (0, -1, -1, 0))),
            {0: (1, 0, 0, 1), 1: (1, 0, 0, 1), 2: (0, -1, -1, 0)},
        ]:
            self.assertIs(shows_bet(TRIANGLE, thing), False)

    def test_any_value(self):
        for report in [EXAMPLE, TRIANGLE, Report(1, Piece((0,), (1, 0)), Piece((0,), (0, 1)))]:
            for thing in strange_values():
                self.assertIs(shows_bet(report, thing), is_bet(report, thing))

    def test_changed_bets(self):
        one = Report(1, Piece((0,), (1, 0)), Piece((0,), (0, 1)))
        for report in [TRIANGLE, one, ring(4), shell(4)]:
            answer = whole(report)
            self.assertIs(shows_bet(report, answer), False)
            for thing in variants(answer[1]):
                self.assertIs(shows_bet(report, thing), is_bet(report, thing), repr(thing))

    def test_wholes_are_no_bets(self):
        self.assertIs(shows_bet(EXAMPLE, whole(EXAMPLE)[1]), False)

    def test_no_report(self):
        for thing in strange_values():
            if not isinstance(thing, Report):
                for shown in [((1, 0, 0, 1),), None, TRIANGLE]:
                    with self.assertRaises(NoReport):
                        shows_bet(thing, shown)


class Rules(Base):

    def test_no_report(self):
        for thing in [*strange_values(), EXAMPLE.pieces, EXAMPLE.text(), EXAMPLE.pieces[0]]:
            if not isinstance(thing, Report):
                with self.assertRaises(NoReport):
                    whole(thing)

    def test_again_and_unchanged(self):
        for report in [EXAMPLE, TRIANGLE]:
            before = report.text()
            answer = whole(report)
            self.assertEqual(whole(report), answer)
            self.assertEqual(whole(Report.read(before)), answer)
            shown = [answer[1], [1, [2]], {1: [2]}]
            kept = repr(shown)
            for thing in [shown, *shown]:
                self.assertEqual(shows_whole(report, thing), shows_whole(report, thing))
                self.assertEqual(shows_bet(report, thing), shows_bet(report, thing))
            self.assertEqual((repr(shown), report.text()), (kept, before))

    def test_kinds(self):
        word, (factor, counts) = whole(EXAMPLE)
        self.assertTrue(type(word) is str and is_int(factor) and type(counts) is tuple and all(map(is_int, counts)))
        word, stakes = whole(TRIANGLE)
        self.assertTrue(type(word) is str and type(stakes) is tuple)
        for stake in stakes:
            self.assertTrue(type(stake) is tuple and all(map(is_int, stake)))

    def test_deep_values(self):
        for core in (1, (1, (0, 1, 2, 1)), EXAMPLE, None):
            self.assertIs(shows_whole(EXAMPLE, nested(19, core)), False)
            self.assertIs(shows_bet(EXAMPLE, nested(19, core)), False)


class WhatHolds(Base):

    def test_what_is_left_has_a_whole(self):
        source = chance(9)
        for _ in range(60):
            report = random_report(source)
            table = whole(report)[1]
            for number in range(len(report)):
                if len(report) > 1:
                    self.assertIs(shows_whole(report - number, table), True)
                    self.check_whole(report - number)

    def test_own_sums_of_a_whole(self):
        source = chance(10)
        tried = 0
        for _ in range(60):
            report = random_report(source)
            factor, counts = whole(report)[1]
            if len(report) == 5 or factor * report.total > 1000:
                continue
            tried += 1
            for group in groups(report.many):
                more = Report(report.many, *[piece * factor for piece in report.pieces])
                more = more + Piece(group, sums(report.many, counts, group))
                self.assertIs(shows_whole(more, (1, counts)), True)
                self.check_whole(more)
        self.assertGreater(tried, 20)

    def test_side_by_side(self):
        two = Report(2, Piece((0,), (1, 1)), Piece((1,), (2, 0)))
        clashing = Report(2, Piece((0,), (1, 1)), Piece((0,), (2, 0)))
        for left in [two, clashing, TRIANGLE]:
            for right in [two, clashing]:
                both = "whole" if (whole(left)[0], whole(right)[0]) == ("whole", "whole") else "bet"
                self.assertEqual(self.check(left | right), both)
                self.assertEqual(self.check(right | left), both)

    def test_random_ones_side_by_side(self):
        source = chance(11)
        words = []
        for _ in range(60):
            left = Report(2, Piece((0,), (3, 1)), Piece((0, 1), tuple(source.choice([(2, 1, 1, 0), (1, 1, 2, 0)]))))
            right = Report(3, *[Piece(pair, source.choice([(0, 2, 2, 0), (2, 0, 0, 2)])) for pair in [
                (0, 1), (0, 2), (1, 2)]])
            both = "whole" if self.check(left) == self.check(right) == "whole" else "bet"
            words.append(self.check(left | right))
            self.assertEqual(words[-1], both)
            self.assertEqual(self.check(right | left), both)
        self.assertIn("whole", words)
        self.assertIn("bet", words)

if __name__ == "__main__":
    unittest.main()
