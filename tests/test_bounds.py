"""How small and how great a share can be: point [30]."""

import unittest
from math import gcd

from piecetables.bounds import greatest, least, shows_greatest, shows_least
from piecetables.errors import NoPattern, NoReport
from piecetables.pieces import Piece
from piecetables.reports import Report, clash
from piecetables.wholes import shows_whole, whole
from tests.helpers import (
    ALIKE, UNLIKE, chance, groups, is_bet, is_bound, is_int, nested, pieces_bring, random_counts, random_report,
    report_of, rows, share, strange_values, sums, twisted, variants,
)

TWO = Report(2, Piece((0,), (1, 3)), Piece((1,), (2, 2)))
EXAMPLE = Report(3, Piece((0, 1), (1, 1, 0, 2)), Piece((1, 2), (1, 0, 1, 2)))
TRIANGLE = Report(3, Piece((0, 1), UNLIKE), Piece((1, 2), UNLIKE), Piece((0, 2), UNLIKE))
LEAST = ((1, (0, 1, 2, 1)), ((0, 1), (-1, 0)), 1)
FUNCTIONS = (least, greatest)
SHOWS = (shows_least, shows_greatest)


def patterns(many):
    """Return all patterns of many variables."""
    found = [()]
    for _ in range(many):
        found = [pattern + (wanted,) for pattern in found for wanted in (0, 1, None)]
    return found


def random_pattern(source, many):
    return tuple(source.choice((0, 1, None)) for _ in range(many))


def is_pattern(thing, many):
    if type(thing) is not tuple or len(thing) != many:
        return False
    return all(part is None or (is_int(part) and part in (0, 1)) for part in thing)


def no_patterns(many):
    """Return values that are no patterns of many variables."""
    found = [thing for thing in strange_values() if not is_pattern(thing, many)]
    for pattern in [(None,) * many, (0,) * many, (1,) * many]:
        found += [
            list(pattern), pattern + (None,), pattern[:-1], pattern[:-1] + (2,), pattern[:-1] + (-1,),
            pattern[:-1] + (True,), (False,) + pattern[1:], pattern[:-1] + ("1",), pattern[:-1] + ((0,),),
            dict(enumerate(pattern)), (pattern,), str(pattern), pattern[:-1] + (TWO,), pattern[:-1] + ([],),
        ]
    return found


class Base(unittest.TestCase):

    def check(self, report, pattern):
        """Check that both answers are right, row by row, and return both shares."""
        shares = []
        for place in (0, 1):
            answer = FUNCTIONS[place](report, pattern)
            self.assertTrue(is_bound(report, pattern, answer)[place], (report.text(), pattern))
            self.assertIs(SHOWS[place](report, pattern, answer), True)
            table = answer[0]
            self.assertEqual(gcd(table[0], *table[1]), 1)
            self.assertIs(shows_whole(report, table), True)
            shares.append(share(report, table, pattern))
        self.assertLessEqual(*shares)
        return tuple(shares)

    def check_none(self, report, pattern):
        self.assertIsNone(least(report, pattern))
        self.assertIsNone(greatest(report, pattern))


class Shares(Base):

    def test_example(self):
        self.assertEqual(least(TWO, (1, 1))[0], (1, (0, 1, 2, 1)))
        self.assertEqual(greatest(TWO, (1, 1))[0], (1, (1, 0, 1, 2)))
        self.assertEqual(self.check(TWO, (1, 1)), (1, 2))

    def test_two_variables(self):
        # Of 10 of which some have one and some the other, as few as possible have both, and as many.
        for first in range(11):
            for second in range(11):
                report = Report(2, Piece((0,), (10 - first, first)), Piece((1,), (10 - second, second)))
                both = (max(0, first + second - 10), min(first, second))
                self.assertEqual(self.check(report, (1, 1)), both)
                self.assertEqual(self.check(report, (1, 0)), (first - both[1], first - both[0]))

    def test_all_patterns(self):
        ring = Report(4, *[Piece(pair, (2, 1, 1, 2)) for pair in [(0, 1), (1, 2), (2, 3), (0, 3)]])
        even = (1, 1, 1, 1)
        half = Report(
            4, Piece((0, 2), even), Piece((2, 3), even), Piece((0, 1, 3), (0, 1, 1, 0, 1, 0, 0, 1)),
            Piece((0, 1), even), Piece((1, 2), even),
        )
        for report in [TWO, EXAMPLE, ring, half, Report(1, Piece((0,), (0, 1))), Report(2, Piece((1,), (1, 2)))]:
            for pattern in patterns(report.many):
                self.check(report, pattern)

    def test_shares_that_are_no_integers(self):
        # Of three pairs of two, at least one is alike: so each row has the share that it can have at most.
        report = Report(3, *[Piece(pair, (1, 2, 2, 1)) for pair in [(0, 1), (0, 2), (1, 2)]])
        self.assertEqual(self.check(report, (0, 0, 0)), (0, 0))
        self.assertEqual(self.check(report, (0, 0, None)), (1, 1))
        even = (1, 1, 1, 1)
        half = Report(
            4, Piece((0, 2), even), Piece((2, 3), even), Piece((0, 1, 3), (0, 1, 1, 0, 1, 0, 0, 1)),
            Piece((0, 1), even), Piece((1, 2), even),
        )
        # Each of the four rows of three variables is there once, and a half of it has each value of the fourth one.
        self.assertEqual(self.check(half, (0, 0, 0, 1)), (sum(self.check(half, (0, 0, 0, 1))) / 2,) * 2)
        self.assertEqual(self.check(half, (0, 0, 0, 1))[0].denominator, 2)

    def test_none_and_all(self):
        source = chance(21)
        for _ in range(20):
            report = random_report(source)
            self.assertEqual(self.check(report, (None,) * report.many), (report.total, report.total))
            row = tuple(source.choice((0, 1)) for _ in range(report.many))
            low, high = self.check(report, row)
            self.assertTrue(0 <= low <= high <= report.total)

    def test_of_one_piece(self):
        source = chance(22)
        for _ in range(20):
            report = random_report(source)
            for piece in report.pieces:
                for row, count in zip(rows(len(piece.variables)), piece.counts):
                    values = dict(zip(piece.variables, row))
                    pattern = tuple(values.get(variable) for variable in range(report.many))
                    self.assertEqual(self.check(report, pattern), (count, count))

    def test_of_a_part_of_a_piece(self):
        report = report_of(5, random_counts(chance(23), 5), (0, 1, 2), (2, 3, 4))
        for group in [(0,), (1, 2), (3, 4), (2,)]:
            for row, count in zip(rows(len(group)), report(group).counts):
                values = dict(zip(group, row))
                self.assertEqual(self.check(report, tuple(values.get(at) for at in range(5))), (count, count))

    def test_of_a_variable_that_no_piece_has(self):
        report = Report(3, Piece((0,), (2, 5)))
        self.assertEqual(self.check(report, (None, None, 1)), (0, 7))
        self.assertEqual(self.check(report, (1, 0, 1)), (0, 5))
        self.assertEqual(self.check(report, (0, None, None)), (2, 2))

    def test_edges(self):
        for many in (1, 5):
            for group in [(0,), (many - 1,), (0, 1, 2), (2, 3, 4)]:
                if group[-1] < many:
                    size = 2 ** len(group)
                    for counts in [(1000,) + (0,) * (size - 1), (0,) * (size - 1) + (1,), (1000 // size,) * size]:
                        for times in (1, 5):
                            report = Report(many, *[Piece(group, counts)] * times)
                            for pattern in [(None,) * many, (0,) * many, (1,) * many, (None,) * (many - 1) + (1,)]:
                                self.check(report, pattern)

    def test_tables(self):
        source = chance(24)
        for _ in range(150):
            report = random_report(source)
            self.check(report, random_pattern(source, report.many))

    def test_five_pieces_of_five_variables(self):
        source = chance(25)
        for size in (2, 3):
            alike = [group for group in groups(5) if len(group) == size]
            for _ in range(30):
                report = report_of(5, random_counts(source, 5), *source.sample(alike, 5))
                self.check(report, random_pattern(source, 5))

    def test_equations_that_follow_from_others(self):
        # What is left of such equations must not come to life when it is the share that is made small or great.
        for text, chosen in [
            (
                "variables 5\n2 3: 1 1 2 0\n1 3: 2 0 1 1\n2 4: 1 1 1 1\n0 1 2: 0 1 1 0 1 0 0 1\n",
                [(1, 1, None, None, None)],
            ),
            (
                "variables 5\n1 3 4: 0 0 1 1 0 0 1 0\n2 3 4: 0 0 1 0 0 0 1 1\n0 1 2: 0 1 0 0 1 0 0 1\n"
                "0 1: 1 0 1 1\n",
                [(1, 1, None, None, 0), (None, 1, None, 1, 0), (1, 0, 0, 1, None)],
            ),
            (
                "variables 5\n1 2: 1 1 2 0\n2 4: 2 1 0 1\n0 1 4: 0 1 0 0 1 0 1 1\n1 2 3: 1 0 0 1 1 1 0 0\n"
                "0 1: 1 0 1 2\n",
                [(1, None, None, 1, None), (None, 1, 0, 1, 0), (None, 1, None, None, 1), (None, 1, None, None, None)],
            ),
        ]:
            for pattern in chosen:
                self.check(Report.read(text), pattern)

    def test_totals_of_a_thousand(self):
        counts = [31] * 32
        counts[7] += 8
        report = report_of(5, counts, (0, 1, 2), (1, 2, 3), (2, 3, 4), (0, 3, 4), (0, 1, 4))
        self.assertEqual(report.total, 1000)
        for pattern in [(0, 0, 1, 1, 1), (1, 1, 1, 1, 1), (None, 0, None, 1, None), (1, None, 1, None, 1)]:
            self.check(report, pattern)
        single = [0] * 32
        single[13] = 1000
        report = report_of(5, single, (0, 1, 2), (1, 2, 3), (2, 3, 4), (0, 3, 4), (0, 1, 4))
        self.assertEqual(self.check(report, (0, 1, 1, 0, 1)), (1000, 1000))
        self.assertEqual(self.check(report, (0, 1, 1, 0, 0)), (0, 0))

    def test_side_by_side(self):
        both = TWO | TWO
        self.assertEqual(self.check(both, (1, 1, None, None)), (1, 2))
        self.assertEqual(self.check(both, (None, None, 1, 1)), (1, 2))
        self.assertEqual(self.check(both, (1, None, 1, None)), (2, 3))


class NoWhole(Base):

    def test_triangle(self):
        for pattern in patterns(3):
            self.check_none(TRIANGLE, pattern)

    def test_exactly_where_there_is_a_bet(self):
        source = chance(26)
        words = []
        for _ in range(150):
            many, size = source.choice([(3, 2), (4, 2), (5, 2), (4, 3), (5, 3)])
            alike = [group for group in groups(many) if len(group) == size]
            report = report_of(many, random_counts(source, many), *source.sample(alike, min(5, len(alike))))
            pieces = [twisted(source, piece) for piece in report.pieces]
            if source.random() < 0.2:
                pieces[0] = Piece(pieces[0].variables, pieces[0].counts[::-1])
            report = Report(many, *pieces)
            word, shown = whole(report)
            words.append((word, clash(report) is None))
            pattern = random_pattern(source, many)
            if word == "bet":
                self.assertTrue(is_bet(report, shown))
                self.check_none(report, pattern)
            else:
                self.check(report, pattern)
        self.assertEqual(set(words), {("bet", True), ("bet", False), ("whole", True)})

    def test_nothing_is_shown(self):
        one = Report(1, Piece((0,), (1, 0)), Piece((0,), (0, 1)))
        for shows in SHOWS:
            for thing in [None, LEAST, whole(one), ((1, (1, 0)), ((0, 0), (0, 0)), 1), (whole(one)[1],)]:
                self.assertIs(shows(one, (1,), thing), False)
                self.assertIs(shows(one, (None,), thing), False)


class Shown(Base):

    def check_thing(self, report, pattern, thing):
        """Check what is said of a value, and return it."""
        wanted = is_bound(report, pattern, thing)
        self.assertEqual(
            (shows_least(report, pattern, thing), shows_greatest(report, pattern, thing)), wanted, repr(thing))
        return wanted

    def test_by_hand(self):
        self.assertEqual(self.check_thing(TWO, (1, 1), LEAST), (True, False))
        table = (1, (1, 0, 1, 2))
        self.assertEqual(self.check_thing(TWO, (1, 1), (table, ((0, 0), (0, 1)), 1)), (False, True))
        self.assertEqual(self.check_thing(TWO, (1, 1), (table, ((0, 1), (0, 0)), 1)), (False, False))

    def test_stakes_of_the_other_side(self):
        low, high = least(TWO, (1, 1)), greatest(TWO, (1, 1))
        self.assertEqual(self.check_thing(TWO, (1, 1), low), (True, False))
        self.assertEqual(self.check_thing(TWO, (1, 1), high), (False, True))
        for thing in [(low[0], high[1], 1), (high[0], low[1], 1)]:
            self.assertEqual(self.check_thing(TWO, (1, 1), thing), (False, False))

    def test_a_share_that_is_the_only_one(self):
        # All pieces bring the share, whatever row it is.
        thing = ((1, (0, 1, 2, 1)), ((0, 1), (0, 0)), 1)
        self.assertEqual(self.check_thing(TWO, (1, None), thing), (True, True))

    def test_other_wholes(self):
        report = Report(3, Piece((0,), (1, 3)), Piece((1,), (2, 2)))
        _, stakes, unit = least(report, (1, 1, None))
        for table in [
            (1, (0, 0, 1, 0, 2, 0, 1, 0)), (1, (0, 0, 0, 1, 1, 1, 0, 1)), (2, (0, 0, 1, 1, 3, 1, 1, 1)),
            (3, (0, 0, 3, 0, 6, 0, 3, 0)),
        ]:
            self.assertEqual(self.check_thing(report, (1, 1, None), (table, stakes, unit))[0], True)
        for table in [(1, (1, 0, 0, 0, 1, 0, 2, 0)), (1, (0, 0, 1, 0, 2, 0, 0, 0)), (2, (0, 0, 1, 0, 2, 0, 1, 0))]:
            self.assertEqual(self.check_thing(report, (1, 1, None), (table, stakes, unit))[0], False)

    def test_stakes_and_unit_times_a_factor(self):
        for place in (0, 1):
            table, stakes, unit = FUNCTIONS[place](TWO, (1, 1))
            for times in (2, 3, 10 ** 13):
                more = tuple(tuple(times * one for one in stake) for stake in stakes)
                self.assertIs(self.check_thing(TWO, (1, 1), (table, more, times * unit))[place], True)
                self.assertIs(self.check_thing(TWO, (1, 1), (table, more, unit))[place], False)
                self.assertIs(self.check_thing(TWO, (1, 1), (table, stakes, times * unit))[place], False)
            none = tuple((0,) * len(stake) for stake in stakes)
            self.assertEqual(self.check_thing(TWO, (1, 1), (table, none, 0)), (False, False))
            less = tuple(tuple(-one for one in stake) for stake in stakes)
            self.assertEqual(self.check_thing(TWO, (1, 1), (table, less, -unit)), (False, False))

    def test_other_stakes(self):
        # What is added to the stakes of one piece can be taken from those of another one.
        for place in (0, 1):
            table, (first, second), unit = FUNCTIONS[place](TWO, (1, 1))
            for more in (1, -1, 5):
                stakes = (tuple(one + more for one in first), tuple(one - more for one in second))
                self.assertIs(self.check_thing(TWO, (1, 1), (table, stakes, unit))[place], True)
                stakes = (tuple(one + more for one in first), second)
                self.assertIs(self.check_thing(TWO, (1, 1), (table, stakes, unit))[place], False)

    def test_stakes_that_bring_too_little_or_too_much(self):
        table = least(TWO, (0, 0))[0]
        self.assertEqual(pieces_bring(TWO, ((0, 0), (0, 0))), 0)
        self.assertEqual(self.check_thing(TWO, (0, 0), (table, ((0, 0), (0, 0)), 1)), (True, False))
        # The pieces bring the share, but a row that fits, or one that does not, is beyond what it may bring.
        report = Report(1, Piece((0,), (2, 2)), Piece((0,), (2, 2)))
        table = (1, (2, 2))
        for stakes, wanted in [
            (((1, 0), (0, 0)), (True, True)), (((2, -1), (0, 0)), (False, False)),
            (((0, 1), (0, 0)), (False, False)), (((2, -1), (-1, 1)), (True, True)),
        ]:
            self.assertEqual(self.check_thing(report, (0,), (table, stakes, 1)), wanted)

    def test_stakes_that_bring_another_amount(self):
        table = least(TWO, (1, 1))[0]
        self.assertEqual(self.check_thing(TWO, (1, 1), (table, ((0, 0), (0, 0)), 1)), (False, False))
        self.assertEqual(self.check_thing(TWO, (1, 1), (table, ((0, 0), (0, 1)), 1)), (False, False))

    def test_another_pattern(self):
        answer = least(TWO, (1, 1))
        for pattern in patterns(2):
            self.assertEqual(self.check_thing(TWO, pattern, answer)[0], pattern == (1, 1))

    def test_kinds(self):
        table, stakes, unit = LEAST
        for thing in [
            (table, stakes, True), (table, stakes, 0), (table, stakes, -1), (table, stakes, None), (table, stakes, "1"),
            (table, stakes), (table, stakes, unit, unit), [table, stakes, unit], (list(table), stakes, unit),
            (table, list(stakes), unit), (table, stakes, [unit]), ((True, table[1]), stakes, unit),
            ((1, (False, 1, 2, 1)), stakes, unit), (table, ((0, True), (-1, 0)), unit),
            (table, ((0, 1), [-1, 0]), unit), (table, ((False, 1), (-1, 0)), unit),
            (stakes, table, unit), (table, unit, stakes), (unit, stakes, table),
            {0: table, 1: stakes, 2: unit}, ((table, stakes, unit),), (table, (stakes,), unit), TWO, None, (TWO,) * 3,
            ("least", LEAST), (("whole", table), stakes, unit), (table, ((0, 1), (-1, 0), (0, 0)), unit),
        ]:
            self.assertEqual(self.check_thing(TWO, (1, 1), thing), (False, False))

    def test_any_value(self):
        for report, pattern in [(TWO, (1, 1)), (EXAMPLE, (None, 0, 1)), (TRIANGLE, (None, None, None))]:
            for thing in strange_values():
                self.check_thing(report, pattern, thing)
                self.check_thing(report, pattern, ((1, (0, 1, 2, 1)), ((0, 1), (-1, 0)), thing))
                self.check_thing(report, pattern, (thing, ((0, 1), (-1, 0)), 1))
                self.check_thing(report, pattern, ((1, (0, 1, 2, 1)), thing, 1))

    def test_deep_values(self):
        for core in (1, LEAST, TWO, None):
            self.check_thing(TWO, (1, 1), nested(18, core))

    def test_changed_answers(self):
        said = []
        one = Report(1, Piece((0,), (1, 0)))
        for report, pattern in [(TWO, (1, 1)), (TWO, (0, None)), (EXAMPLE, (1, None, 0)), (one, (1,)), (one, (None,))]:
            for function in FUNCTIONS:
                for thing in variants(function(report, pattern)):
                    said.append(self.check_thing(report, pattern, thing))
        self.assertEqual(set(said), {(False, False), (False, True), (True, False), (True, True)})


class Rules(Base):

    def test_no_report(self):
        for thing in strange_values():
            if not isinstance(thing, Report):
                for pattern in [(1, 1), None, [1, 1], (True, 1), TWO]:
                    for function in FUNCTIONS:
                        with self.assertRaises(NoReport):
                            function(thing, pattern)
                    for shows in SHOWS:
                        for shown in [LEAST, None, TWO]:
                            with self.assertRaises(NoReport):
                                shows(thing, pattern, shown)

    def test_no_pattern(self):
        for report in [TWO, TRIANGLE, Report(1, Piece((0,), (1, 0))), report_of(5, range(32), (0, 1, 2), (4,))]:
            for thing in no_patterns(report.many):
                for function in FUNCTIONS:
                    with self.assertRaises(NoPattern):
                        function(report, thing)
                for shows in SHOWS:
                    for shown in [LEAST, None]:
                        with self.assertRaises(NoPattern):
                            shows(report, thing, shown)

    def test_errors_are_of_their_class_alone(self):
        for report, pattern, kind in [(None, None, NoReport), (None, (1, 1), NoReport), (TWO, None, NoPattern)]:
            for function in FUNCTIONS:
                with self.assertRaises(kind) as caught:
                    function(report, pattern)
                self.assertIs(type(caught.exception), kind)

    def test_again_and_unchanged(self):
        for report, pattern in [(TWO, (1, 1)), (EXAMPLE, (None, 1, 0)), (TRIANGLE, (0, 0, 0))]:
            before = report.text()
            for function, shows in zip(FUNCTIONS, SHOWS):
                answer = function(report, pattern)
                self.assertEqual(function(report, pattern), answer)
                self.assertEqual(function(Report.read(before), pattern), answer)
                shown = [answer, [1, [2]], {1: [2]}]
                kept = repr(shown)
                for thing in [shown, *shown]:
                    self.assertEqual(shows(report, pattern, thing), shows(report, pattern, thing))
                for wrong in [[1, [1]], {0: 1}]:
                    copy = repr(wrong)
                    with self.assertRaises(NoPattern):
                        function(report, wrong)
                    self.assertEqual(repr(wrong), copy)
                self.assertEqual((repr(shown), report.text()), (kept, before))

    def test_kinds(self):
        for report, pattern in [(TWO, (1, 1)), (EXAMPLE, (None, 1, 0))]:
            for function in FUNCTIONS:
                answer = function(report, pattern)
                self.assertIs(type(answer), tuple)
                (factor, counts), stakes, unit = answer
                self.assertIs(type(answer[0]), tuple)
                self.assertTrue(is_int(factor) and is_int(unit) and type(counts) is tuple)
                self.assertTrue(all(map(is_int, counts)) and type(stakes) is tuple)
                for stake in stakes:
                    self.assertTrue(type(stake) is tuple and all(map(is_int, stake)))


class OwnSums(Base):

    def test_a_whole_with_its_own_sums_added(self):
        # What a whole with the least share has as its sum is what there is if the sum is told by a further piece.
        source = chance(27)
        tried = 0
        for _ in range(40):
            report = random_report(source)
            if len(report) == 5:
                continue
            group = source.choice(groups(report.many))
            values = dict(zip(group, (1,) * len(group)))
            pattern = tuple(values.get(variable) for variable in range(report.many))
            low, high = self.check(report, pattern)
            for function, wanted in zip(FUNCTIONS, (low, high)):
                factor, counts = function(report, pattern)[0]
                if factor * report.total <= 1000:
                    tried += 1
                    pieces = [piece * factor for piece in report.pieces]
                    more = Report(report.many, *pieces, Piece(group, sums(report.many, counts, group)))
                    self.assertEqual(self.check(more, pattern), (factor * wanted, factor * wanted))
        self.assertGreater(tried, 30)


if __name__ == "__main__":
    unittest.main()
