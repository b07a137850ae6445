"""Reports: point [12], clash of point [22], and the general rules as far as they touch reports."""

import unittest

from piecetables.errors import NoMany, NoNumber, NoPiece, NoReport, NoTotal, NoVariables, TooMany
from piecetables.pieces import Piece
from piecetables.reports import Report, clash
from tests.helpers import ALIKE, UNLIKE, chance, groups, is_int, random_report, strange_values, sums

ONE = Piece((0,), (1, 3))
TWO = Piece((1,), (2, 2))
BOTH = Piece((0, 1), (1, 0, 1, 2))
OTHER_TOTAL = Piece((0,), (2, 3))
FAR = Piece((4,), (1, 3))


class Making(unittest.TestCase):

    def test_properties(self):
        report = Report(3, ONE, BOTH)
        self.assertEqual((report.many, report.pieces, report.total), (3, (ONE, BOTH), 4))
        self.assertEqual(report.scheme, (3, ((0,), (0, 1))))
        self.assertIs(type(report.many), int)
        self.assertIs(type(report.total), int)
        for thing in (report.pieces, report.scheme, report.scheme[1]):
            self.assertIs(type(thing), tuple)

    def test_edges(self):
        self.assertEqual(Report(1, ONE).scheme, (1, ((0,),)))
        self.assertEqual(Report(5, ONE).many, 5)
        self.assertEqual(Report(5, FAR).scheme, (5, ((4,),)))
        self.assertEqual(Report(2, ONE, ONE, ONE, ONE, ONE).scheme, (2, ((0,),) * 5))
        self.assertEqual(Report(1, Piece((0,), (1000, 0))).total, 1000)
        self.assertEqual(Report(1, Piece((0,), (0, 1))).total, 1)
        self.assertEqual(Report(3, Piece((0, 1, 2), (1,) * 8)).total, 8)

    def test_no_many(self):
        for many in [*strange_values(), 0, 6, -1, True, False, None, "3", (3,), [3], 10 ** 12, ONE]:
            if is_int(many) and 1 <= many <= 5:
                self.assertEqual(Report(many, ONE).many, many)
                continue
            for pieces in [(ONE,), (), (5,), (ONE,) * 6, (ONE, OTHER_TOTAL), (None,) * 6]:
                with self.assertRaises(NoMany):
                    Report(many, *pieces)

    def test_no_piece(self):
        with self.assertRaises(NoPiece):
            Report(3)
        for thing in strange_values():
            if isinstance(thing, Piece):
                continue
            for pieces in [(thing,), (ONE, thing), (thing, ONE), (ONE,) * 5 + (thing,), (ONE, OTHER_TOTAL, thing)]:
                with self.assertRaises(NoPiece):
                    Report(2, *pieces)

    def test_no_piece_of_these_variables(self):
        for many in (1, 2, 3, 4, 5):
            for group in groups(5):
                piece = Piece(group, (1,) + (0,) * (2 ** len(group) - 1))
                if group[-1] < many:
                    self.assertEqual(Report(many, piece).pieces, (piece,))
                    continue
                for pieces in [(piece,), (ONE, piece), (ONE,) * 5 + (piece,)]:
                    with self.assertRaises(NoPiece):
                        Report(many, *pieces)

    def test_too_many(self):
        for amount in (6, 7, 12):
            for pieces in [(ONE,) * amount, (ONE,) * (amount - 1) + (OTHER_TOTAL,)]:
                with self.assertRaises(TooMany) as caught:
                    Report(3, *pieces)
                self.assertEqual((caught.exception.amount, caught.exception.limit), (amount, 5))

    def test_no_total(self):
        for pieces in [(ONE, OTHER_TOTAL), (OTHER_TOTAL, ONE), (ONE,) * 4 + (OTHER_TOTAL,), (ONE, BOTH, OTHER_TOTAL),
                       (ONE, BOTH * 2)]:
            with self.assertRaises(NoTotal):
                Report(2, *pieces)


class Asking(unittest.TestCase):

    def setUp(self):
        # The pieces disagree, so that each answer tells which piece it comes from.
        self.report = Report(
            4, Piece((0, 1), (1, 2, 3, 4)), Piece((0, 1, 2), (1, 1, 1, 1, 1, 1, 1, 3)), Piece((2, 3), (4, 3, 2, 1)),
        )

    def test_first_piece_that_has_all(self):
        report = self.report
        self.assertEqual(report((0,)), Piece((0,), (3, 7)))
        self.assertEqual(report((1,)), Piece((1,), (4, 6)))
        self.assertEqual(report((2,)), Piece((2,), (4, 6)))
        self.assertEqual(report((3,)), Piece((3,), (6, 4)))
        self.assertEqual(report((0, 1)), report.pieces[0])
        self.assertEqual(report((0, 2)), Piece((0, 2), (2, 2, 2, 4)))
        self.assertEqual(report((2, 3)), report.pieces[2])
        self.assertEqual(report((0, 1, 2)), report.pieces[1])

    def test_no_piece_has_all(self):
        for group in [(0, 3), (1, 3), (0, 1, 3), (0, 2, 3), (1, 2, 3)]:
            self.assertIsNone(self.report(group))
        self.assertIsNone(Report(5, ONE)((4,)))

    def test_no_group_of_the_variables(self):
        wrong = [(), (4,), (0, 4), (-1,), (1, 0), (0, 0), (0, 1, 2, 3), (True,), (0, True), [0], [0, 1], 0, "0", None,
                 ((0,),), ONE, {0: 1}]
        for variables in wrong:
            with self.assertRaises(NoVariables):
                self.report(variables)

    def test_any_value(self):
        report = Report(5, FAR)
        for thing in strange_values():
            if type(thing) is tuple and all(is_int(one) for one in thing) and thing in groups(5):
                self.assertIsNone(report(thing))
            else:
                with self.assertRaises(NoVariables):
                    report(thing)


class Adding(unittest.TestCase):

    def test_one_more(self):
        report = Report(2, ONE)
        self.assertEqual(report + TWO, Report(2, ONE, TWO))
        self.assertEqual(report + TWO + BOTH + ONE + ONE, Report(2, ONE, TWO, BOTH, ONE, ONE))
        self.assertEqual(report, Report(2, ONE))

    def test_no_piece(self):
        full = Report(2, ONE, ONE, ONE, ONE, ONE)
        for report in (Report(2, ONE), full):
            for thing in [*strange_values(), FAR, Piece((2,), (1, 3)), Piece((0, 2), (5, 0, 0, 0)), report, None]:
                if thing == Piece((0, 1), (1, 2, 3, 4)):
                    continue
                with self.assertRaises(NoPiece):
                    report + thing
        self.assertEqual(len(full), 5)

    def test_too_many(self):
        full = Report(2, ONE, ONE, ONE, ONE, ONE)
        for piece in (ONE, BOTH, OTHER_TOTAL):
            with self.assertRaises(TooMany) as caught:
                full + piece
            self.assertEqual((caught.exception.amount, caught.exception.limit), (6, 5))
        self.assertEqual(full, Report(2, ONE, ONE, ONE, ONE, ONE))

    def test_no_total(self):
        with self.assertRaises(NoTotal):
            Report(2, ONE) + OTHER_TOTAL


class TakingAway(unittest.TestCase):

    def test_without_a_piece(self):
        report = Report(3, ONE, TWO, BOTH)
        self.assertEqual(report - 0, Report(3, TWO, BOTH))
        self.assertEqual(report - 1, Report(3, ONE, BOTH))
        self.assertEqual(report - 2, Report(3, ONE, TWO))
        self.assertEqual(report - 2 - 0, Report(3, TWO))
        self.assertEqual(report, Report(3, ONE, TWO, BOTH))

    def test_no_number(self):
        report = Report(3, ONE, TWO, BOTH)
        for thing in [*strange_values(), 3, 4, -1, -3, True, False, None, "0", (0,), ONE]:
            if is_int(thing) and 0 <= thing <= 2:
                continue
            with self.assertRaises(NoNumber):
                report - thing
        self.assertEqual(report, Report(3, ONE, TWO, BOTH))

    def test_the_only_piece(self):
        for thing in [*strange_values(), 0, 1, -1, None]:
            with self.assertRaises(NoNumber):
                Report(3, ONE) - thing


class SideBySide(unittest.TestCase):

    def test_both(self):
        left = Report(2, ONE, BOTH)
        right = Report(3, Piece((0, 2), (1, 1, 1, 1)), Piece((1,), (4, 0)))
        self.assertEqual(
            left | right, Report(5, ONE, BOTH, Piece((2, 4), (1, 1, 1, 1)), Piece((3,), (4, 0))),
        )
        self.assertEqual(
            right | left, Report(5, Piece((0, 2), (1, 1, 1, 1)), Piece((1,), (4, 0)), Piece((3,), (1, 3)),
                                 Piece((3, 4), (1, 0, 1, 2))),
        )
        self.assertEqual(Report(1, ONE) | Report(1, ONE), Report(2, ONE, Piece((1,), (1, 3))))
        self.assertEqual((left, right.many, len(right)), (Report(2, ONE, BOTH), 3, 2))

    def test_variables_that_no_piece_has(self):
        self.assertEqual(Report(2, ONE) | Report(3, ONE), Report(5, ONE, Piece((2,), (1, 3))))

    def test_edges(self):
        both = Report(1, ONE, ONE, ONE) | Report(4, ONE, ONE)
        self.assertEqual((both.many, len(both)), (5, 5))

    def test_no_report(self):
        for thing in [*strange_values(), ONE, (Report(1, ONE),), None, 1, {0: 1}]:
            if isinstance(thing, Report):
                continue
            with self.assertRaises(NoReport):
                Report(5, ONE, ONE, ONE, ONE, ONE) | thing

    def check_too_many(self, left, right, amount):
        with self.assertRaises(TooMany) as caught:
            left | right
        self.assertEqual((caught.exception.amount, caught.exception.limit), (amount, 5))

    def test_too_many_variables(self):
        self.check_too_many(Report(2, ONE), Report(4, ONE), 6)
        self.check_too_many(Report(5, ONE), Report(5, ONE), 10)
        self.check_too_many(Report(5, ONE), Report(1, OTHER_TOTAL), 6)

    def test_too_many_pieces(self):
        self.check_too_many(Report(1, ONE, ONE, ONE), Report(1, ONE, ONE, ONE), 6)
        self.check_too_many(Report(1, *[ONE] * 5), Report(1, *[OTHER_TOTAL] * 4), 9)

    def test_of_both_the_variables_count(self):
        self.check_too_many(Report(4, *[ONE] * 5), Report(3, *[ONE] * 4), 7)

    def test_no_total(self):
        with self.assertRaises(NoTotal):
            Report(2, ONE) | Report(2, OTHER_TOTAL)
        with self.assertRaises(NoTotal):
            Report(4, ONE, ONE, ONE, ONE) | Report(1, OTHER_TOTAL)


class Comparing(unittest.TestCase):

    def test_equal(self):
        report = Report(3, ONE, TWO)
        self.assertTrue(report == Report(3, Piece((0,), (1, 3)), Piece((1,), (2, 2))))
        self.assertFalse(report != Report(3, ONE, TWO))
        for other in [Report(2, ONE, TWO), Report(3, TWO, ONE), Report(3, ONE), Report(3, ONE, TWO, TWO),
                      Report(3, ONE, Piece((1,), (1, 3))), Report(3, ONE, Piece((2,), (2, 2)))]:
            self.assertFalse(report == other)
            self.assertTrue(report != other)

    def test_equal_to_nothing_else(self):
        report = Report(3, ONE)
        for other in [*strange_values(), ONE, (ONE,), (3, (ONE,)), (3, ONE), report.scheme, report.text(), 3]:
            self.assertIs(report == other, False)
            self.assertIs(other == report, False)
            self.assertIs(report != other, True)

    def test_len_and_repr(self):
        self.assertEqual(len(Report(3, ONE, TWO)), 2)
        self.assertEqual(len(Report(1, ONE)), 1)
        self.assertEqual(len(Report(1, *[ONE] * 5)), 5)
        self.assertEqual(repr(Report(3, ONE, TWO)), "Report(3 variables, 2 pieces)")
        self.assertEqual(repr(Report(1, ONE)), "Report(1 variables, 1 pieces)")
        self.assertEqual(repr(Report(5, *[ONE] * 5)), "Report(5 variables, 5 pieces)")

    def test_reports_do_not_change(self):
        report = Report(3, ONE, TWO)
        before = report.text()
        first = (report + BOTH, report - 1, report | Report(1, ONE), report((0,)))
        second = (report + BOTH, report - 1, report | Report(1, ONE), report((0,)))
        self.assertEqual(first, second)
        wrong = [lambda: report + 1, lambda: report - 2, lambda: report | 1, lambda: report((3,)),
                 lambda: report + OTHER_TOTAL, lambda: report | Report(3, ONE)]
        for action in wrong:
            with self.assertRaises(ValueError):
                action()
        self.assertEqual((report.text(), report.many, report.total, len(report)), (before, 3, 4, 2))
        self.assertEqual(report.scheme, (3, ((0,), (1,))))


class Clash(unittest.TestCase):

    def test_agreeing(self):
        self.assertIsNone(clash(Report(1, ONE)))
        self.assertIsNone(clash(Report(3, Piece((0, 1), UNLIKE), Piece((1, 2), UNLIKE), Piece((0, 2), UNLIKE))))
        self.assertIsNone(clash(Report(4, Piece((0, 1), (1, 0, 0, 1)), Piece((2, 3), (2, 0, 0, 0)))))
        self.assertIsNone(clash(Report(1, ONE, ONE)))
        source = chance(1)
        for _ in range(100):
            self.assertIsNone(clash(random_report(source)))

    def test_one_common_variable(self):
        self.assertEqual(clash(Report(3, Piece((0, 1), (2, 0, 0, 0)), Piece((1, 2), UNLIKE))), (0, 1, (1,)))

    def test_more_common_variables(self):
        # Both have the same counts of each variable alone.
        self.assertEqual(clash(Report(2, Piece((0, 1), ALIKE), Piece((0, 1), UNLIKE))), (0, 1, (0, 1)))
        self.assertEqual(
            clash(Report(4, Piece((0, 1, 3), (1, 0, 0, 0, 0, 0, 1, 0)), Piece((0, 1, 2), (0, 1, 0, 1, 0, 0, 0, 0)))),
            (0, 1, (0, 1)),
        )
        self.assertEqual(clash(Report(1, ONE, Piece((0,), (3, 1)))), (0, 1, (0,)))

    def test_smallest_second_then_first(self):
        zero = Piece((0,), (1, 0))
        one = Piece((0,), (0, 1))
        two = Piece((1,), (1, 0))
        three = Piece((1,), (0, 1))
        self.assertEqual(clash(Report(2, zero, two, three, one)), (1, 2, (1,)))
        self.assertEqual(clash(Report(2, zero, zero, one)), (0, 2, (0,)))
        self.assertEqual(clash(Report(2, two, zero, zero, one, three)), (1, 3, (0,)))
        self.assertEqual(clash(Report(2, two, two, two, zero, one)), (3, 4, (0,)))
        both = Piece((0, 1), (0, 0, 0, 1))
        self.assertEqual(clash(Report(2, two, zero, both)), (0, 2, (1,)))
        self.assertEqual(clash(Report(2, three, zero, both)), (1, 2, (0,)))
        self.assertEqual(clash(Report(2, zero, both, three, two)), (0, 1, (0,)))

    def test_as_the_document_says(self):
        source = chance(2)
        for _ in range(300):
            pieces = []
            many = source.randint(1, 4)
            for _ in range(source.randint(1, 5)):
                group = source.choice(groups(many))
                counts = [0] * 2 ** len(group)
                for _ in range(2):
                    counts[source.randrange(len(counts))] += 1
                pieces.append(Piece(group, tuple(counts)))
            self.assertEqual(clash(Report(many, *pieces)), plain_clash(pieces))

    def test_kinds(self):
        answer = clash(Report(2, Piece((0, 1), ALIKE), Piece((0, 1), UNLIKE)))
        self.assertIs(type(answer), tuple)
        self.assertIs(type(answer[2]), tuple)

    def test_no_report(self):
        for thing in strange_values():
            if not isinstance(thing, Report):
                with self.assertRaises(NoReport):
                    clash(thing)


def plain_clash(pieces):
    for second in range(len(pieces)):
        for first in range(second):
            one, other = pieces[first], pieces[second]
            common = tuple(sorted(set(one.variables) & set(other.variables)))
            if common and plain_part(one, common) != plain_part(other, common):
                return (first, second, common)
    return None


def plain_part(piece, variables):
    own = [piece.variables.index(variable) for variable in variables]
    return sums(len(piece.variables), piece.counts, own)


if __name__ == "__main__":
    unittest.main()
