"""What holds over the whole program: points [1], [2], [3] and [90], and the exceptions of the interface."""

import unittest

from piecetables import errors
from piecetables.bounds import greatest, least, shows_greatest, shows_least
from piecetables.errors import Disagree, Lost
from piecetables.fewest import drops, quarrels
from piecetables.knots import knot, shows_knot, trap
from piecetables.ledgers import Agreeing, Ledger, Loose
from piecetables.pieces import Piece
from piecetables.reports import Report, clash
from piecetables.rims import rim
from piecetables.schemes import is_scheme, shows_steps, steps
from piecetables.tables import tables
from piecetables.wholes import shows_bet, shows_whole, whole
from piecetables.woven import woven
from tests.helpers import (
    UNLIKE, chance, groups, has_whole, random_piece, random_report, random_scheme, scheme_sets, strange_values, sums,
    twisted,
)

PAIRS = ((0, 1), (1, 2), (0, 2))
TRIANGLE = Report(3, *[Piece(pair, UNLIKE) for pair in PAIRS])
CHAIN = Report(3, Piece((0, 1), (1, 1, 0, 2)), Piece((1, 2), (1, 0, 1, 2)))
ZERO, ONE = Piece((0,), (4, 0)), Piece((0,), (0, 4))
TORN = Report(3, ZERO, *[Piece(pair, (2, 0, 0, 2)) for pair in PAIRS])


class Sessions(unittest.TestCase):

    def test_the_short_one(self):
        self.assertEqual(whole(TRIANGLE)[0], "bet")
        self.assertIs(shows_bet(TRIANGLE, ((0, -1, -1, 0), (1, 0, 0, 1), (0, 0, 0, 0))), False)
        self.assertIs(shows_bet(TRIANGLE, ((1, 0, 0, 1), (1, 0, 0, 1), (0, -1, -1, 0))), True)
        self.assertEqual(steps((4, ((0, 1), (1, 2), (2, 3)))), ((0, 1), (1, 2)))
        self.assertIsNone(steps(TRIANGLE.scheme))

    def test_how_small_and_how_great(self):
        two = Report(2, Piece((0,), (1, 3)), Piece((1,), (2, 2)))
        self.assertEqual(least(two, (1, 1))[0], (1, (0, 1, 2, 1)))
        self.assertEqual(greatest(two, (1, 1))[0], (1, (1, 0, 1, 2)))
        self.assertEqual(list(tables(two)), [least(two, (1, 1))[0], greatest(two, (1, 1))[0]])

    def test_the_text_and_the_woven_whole(self):
        report = Report.read("variables 3\n0 1: 1 1 0 2\n1 2: 1 0 1 2\n")
        self.assertEqual((report, report.text()), (CHAIN, "variables 3\n0 1: 1 1 0 2\n1 2: 1 0 1 2\n"))
        self.assertEqual(woven(report), (3, (3, 0, 1, 2, 0, 0, 2, 4)))

    def test_a_ledger(self):
        ledger = Ledger(3, 4)
        self.assertEqual(ledger.take_all(*CHAIN.pieces), 2)
        self.assertEqual((repr(ledger), ledger.report), ("Ledger(3 variables, 2 pieces)", CHAIN))


class WhatHolds(unittest.TestCase):

    def check_together(self, report):
        """Check that all that is said of a report fits together, and tell whether it has a whole."""
        word, shown = whole(report)
        good = has_whole(report)
        self.assertEqual((shows_whole(report, shown), shows_bet(report, shown)), (good, not good))
        dropped, quarrelling = drops(report), list(quarrels(report))
        self.assertEqual((word == "whole", dropped == (), quarrelling == []), (good,) * 3)
        self.assertTrue(all(set(dropped) & set(numbers) for numbers in quarrelling))
        self.check_what_is_left(report, good, quarrelling)
        self.check_ledgers(report, good)
        pattern = (1,) + (None,) * (report.many - 1)
        self.assertEqual((least(report, pattern) is None, greatest(report, pattern) is None), (not good,) * 2)
        if report.many <= 3 and report.total <= 12:
            found = list(tables(report))
            self.assertTrue(good or not found)
            for table in found[:3]:
                self.assertIs(shows_whole(report, table), True)
        if clash(report) is not None:
            self.assertFalse(good)
        elif steps(report.scheme) is not None:
            self.assertTrue(good)
            self.assertIs(shows_whole(report, woven(report)), True)
        return good

    def check_what_is_left(self, report, good, quarrelling):
        if len(report) == 1:
            return
        for number in range(len(report)):
            left = has_whole(report - number)
            self.assertTrue(left or not good)
            self.assertEqual(left, all(number in numbers for numbers in quarrelling))

    def check_ledgers(self, report, good):
        """Check that each ledger takes what it is to take."""
        ledger, agreeing, loose = [kind(report.many, report.total) for kind in (Ledger, Agreeing, Loose)]
        self.assertEqual(loose.take_all(*report.pieces), len(report))
        self.assertEqual(loose.report, report)
        try:
            ledger.take_all(*report.pieces)
            self.assertTrue(good)
            self.assertEqual(ledger.report, report)
        except Lost as error:
            self.assertFalse(good)
            against = Report(report.many, *report.pieces[:len(error.stakes)])
            self.assertIs(shows_bet(against, error.stakes), True)
            self.assertTrue(len(against) == 1 or has_whole(against - (len(against) - 1)))
        try:
            agreeing.take_all(*report.pieces)
            self.assertIsNone(clash(report))
            self.assertEqual(agreeing.report, report)
        except Disagree as error:
            self.assertEqual((error.first, error.second), clash(report)[:2])

    def test_reports_of_a_table(self):
        source = chance(90)
        for _ in range(40):
            self.assertIs(self.check_together(random_report(source)), True)

    def test_random_pieces(self):
        source = chance(91)
        said = []
        for _ in range(80):
            many, chosen = random_scheme(source)
            total = source.choice([1, 2, 12, 1000])
            said.append(self.check_together(Report(many, *[random_piece(source, group, total) for group in chosen])))
        self.assertEqual(set(said), {True, False})

    def test_pieces_that_agree(self):
        source = chance(92)
        said = []
        for _ in range(60):
            many, size = source.choice([(3, 2), (4, 2), (4, 3), (5, 2)])
            alike = [group for group in groups(many) if len(group) == size]
            chosen = source.sample(alike, min(5, len(alike)))
            counts = (3,) * 4 if size == 2 else (1,) * 8
            said.append(self.check_together(Report(many, *[twisted(source, Piece(group, counts)) for group in chosen])))
        self.assertEqual(set(said), {True, False})

    def test_schemes(self):
        for scheme in [*scheme_sets(4, 3)[::5], *scheme_sets(5, 5)[::1999]]:
            taken, found, report = steps(scheme), knot(scheme), trap(scheme)
            self.assertEqual((found is None, report is None), (taken is not None,) * 2)
            self.assertTrue(shows_steps(scheme, taken) if found is None else shows_knot(scheme, found))
            if report is not None:
                self.assertIs(self.check_together(report), False)
                self.assertEqual((report.scheme, clash(report)), (scheme, None))

    def test_side_by_side(self):
        source = chance(93)
        said = []
        for _ in range(60):
            pairs = [(0, 1), (0, 1)]
            left = Report(2, *[Piece(pair, source.choice([(1, 1, 1, 1), (2, 0, 1, 1)])) for pair in pairs])
            right = Report(3, *[Piece(pair, source.choice([(0, 2, 2, 0), (2, 0, 0, 2)])) for pair in PAIRS])
            both = self.check_together(left | right)
            self.assertEqual(both, has_whole(left) and has_whole(right))
            self.assertEqual([*quarrels(left | right)], sorted(
                [*quarrels(left), *[tuple(number + 2 for number in one) for one in quarrels(right)]],
                key=lambda numbers: (len(numbers), numbers),
            ))
            self.assertEqual(drops(left | right), (*drops(left), *[number + 2 for number in drops(right)]))
            said.append(both)
        self.assertEqual(set(said), {True, False})

    def test_a_whole_with_its_own_sums(self):
        source = chance(94)
        tried = 0
        for _ in range(60):
            report = random_report(source)
            factor, counts = whole(report)[1]
            if len(report) == 5 or factor * report.total > 1000:
                continue
            tried += 1
            ledger = Ledger(report.many, factor * report.total)
            ledger.take_all(*[piece * factor for piece in report.pieces])
            for group in groups(report.many):
                self.assertEqual(ledger.take(Piece(group, sums(report.many, counts, group))), len(report) + 1)
                self.assertIs(shows_whole(ledger.report, (1, counts)), True)
                ledger.undo()
        self.assertGreater(tried, 20)

    def test_a_ring_of_pairs(self):
        for signs in range(8):
            pieces = [Piece(pair, ((1, 0, 0, 1), UNLIKE)[signs >> at & 1]) for at, pair in enumerate(PAIRS)]
            report = Report(3, *pieces)
            self.assertIs(rim(report) is None, self.check_together(report))


def deeds():
    """Return, for each exception that the interface lists, deeds that raise it, with its fields."""
    ledger, agreeing, loose = Ledger(3, 4), Agreeing(3, 4), Loose(3, 4)
    for one in (ledger, agreeing, loose):
        one.take(ZERO)
    full = Loose(3, 4)
    full.take_all(*[ZERO] * 5)
    far, other = Piece((4,), (4, 0)), Piece((0,), (5, 0))
    by_report = [
        clash, whole, woven, rim, drops, lambda told: next(quarrels(told)), lambda told: next(tables(told)),
        lambda told: shows_whole(told, 1), lambda told: shows_bet(told, 1), lambda told: least(told, 1),
        lambda told: greatest(told, 1), lambda told: shows_least(told, 1, 1), lambda told: shows_greatest(told, 1, 1),
        lambda told: CHAIN | told,
    ]
    by_scheme = [steps, knot, trap, lambda told: shows_steps(told, 1), lambda told: shows_knot(told, 1)]
    by_ledger = [(one, deed) for one in (ledger, agreeing, loose, full) for deed in (one.take, one, one.take_all)]
    return [
        *[("NoReport", lambda deed=deed: deed(None)) for deed in by_report],
        *[("NoScheme", lambda deed=deed: deed((3, [(0, 1)]))) for deed in by_scheme],
        *[("NoPattern", lambda deed=deed: deed(CHAIN, (True, None, 0))) for deed in (least, greatest)],
        *[("NoPattern", lambda deed=deed: deed(CHAIN, (1, 0), 1)) for deed in (shows_least, shows_greatest)],
        *[("NoPiece", lambda deed=deed: deed(far)) for _, deed in by_ledger],
        *[("NoTotal", lambda deed=deed: deed(other)) for _, deed in by_ledger],
        *[("TooMany", lambda deed=deed: deed(ONE), 6, 5) for one, deed in by_ledger if one is full],
        *[("Lost", lambda deed=deed: deed(ONE), None) for one, deed in by_ledger if one is ledger],
        *[("Disagree", lambda deed=deed: deed(ONE), 0, 1) for one, deed in by_ledger if one is agreeing],
        *[("NoMany", lambda kind=kind: kind(6, 0)) for kind in (Ledger, Agreeing, Loose)],
        *[("NoTotal", lambda kind=kind: kind(5, 0)) for kind in (Ledger, Agreeing, Loose)],
        *[("NothingDone", kind(3, 4).undo) for kind in (Ledger, Agreeing, Loose)],
        ("NoVariables", lambda: Piece((1, 0), (1, 1))), ("NoVariables", lambda: ZERO((1,))),
        ("NoVariables", lambda: CHAIN((3,))), ("NoCounts", lambda: Piece((0,), (0, 0))), ("NoRow", lambda: ZERO[0]),
        ("NoPiece", lambda: ZERO + far), ("TooMany", lambda: ZERO * 251, 1004, 1000), ("NoFactor", lambda: ZERO * True),
        ("TooMany", lambda: Piece((0,), (999, 0)) + Piece((0,), (0, 2)), 1001, 1000),
        ("NoMany", lambda: Report(0, far)),
        ("NoPiece", lambda: Report(3)), ("TooMany", lambda: Report(1, *[ZERO] * 6), 6, 5),
        ("NoTotal", lambda: Report(1, ZERO, other)), ("NoPiece", lambda: CHAIN + far),
        ("TooMany", lambda: Report(1, *[ZERO] * 5) + ZERO, 6, 5), ("NoTotal", lambda: CHAIN + other),
        ("NoNumber", lambda: CHAIN - 2), ("TooMany", lambda: CHAIN | CHAIN, 6, 5),
        ("NoTotal", lambda: CHAIN | Report(1, other)), ("NoText", lambda: Report.read("variables 1\n")),
        ("Disagree", lambda: woven(TORN), 0, 1), ("NoSteps", lambda: woven(TRIANGLE)), ("NoRing", lambda: rim(CHAIN)),
        ("Disagree", lambda: rim(TORN - 0 - 2 + Piece((0, 2), (4, 0, 0, 0))), 0, 2),
        ("TooMany", lambda: next(tables(Report(4, ZERO))), 4, 3),
        ("TooMany", lambda: next(tables(CHAIN | Report(1, ZERO))), 4, 3),
        ("TooMany", lambda: next(tables(Report(3, Piece((0,), (13, 0))))), 13, 12),
    ]


class Exceptions(unittest.TestCase):

    def test_each_of_its_class_alone(self):
        raised = set()
        for name, deed, *fields in deeds():
            for _ in range(2):
                with self.assertRaises(getattr(errors, name)) as caught:
                    deed()
                error = caught.exception
                self.assertIs(type(error), getattr(errors, name))
                if name == "TooMany":
                    self.assertEqual([error.amount, error.limit], fields)
                if name == "Disagree":
                    self.assertEqual([error.first, error.second], fields)
                if name == "Lost":
                    self.assertIs(shows_bet(Report(3, ZERO, ONE), error.stakes), True)
            raised.add(name)
        known = {name for name in vars(errors) if isinstance(getattr(errors, name), type)}
        self.assertEqual(raised, known - {"PieceError"})


class AnyValue(unittest.TestCase):

    def test_no_function_changes_what_it_is_passed(self):
        things = [thing for thing in strange_values() if not isinstance(thing, (Piece, Report))]
        before = repr(things)
        for thing in things:
            for deed in [
                clash, whole, woven, rim, drops, steps, knot, trap, Report.read, CHAIN, ZERO, Ledger(3, 4).take,
                Agreeing(3, 4).take, Loose(3, 4), lambda told: list(quarrels(told)), lambda told: list(tables(told)),
                lambda told: CHAIN | told, lambda told: CHAIN + told, lambda told: ZERO + told, lambda told: ZERO[told],
                lambda told: Ledger(5, told), lambda told: Loose(told, 5),
                lambda told: Agreeing(3, 4).take_all(ZERO, told),
            ]:
                try:
                    deed(thing)
                except errors.PieceError:
                    pass
            self.assertIn(is_scheme(thing), (True, False))
            for told in [
                shows_whole(CHAIN, thing), shows_bet(CHAIN, thing), shows_least(CHAIN, (1, 0, None), thing),
                shows_greatest(CHAIN, (1, 0, None), thing), shows_steps(TRIANGLE.scheme, thing),
                shows_knot(TRIANGLE.scheme, thing), thing in Piece((3,), (4, 0)), thing in Loose(3, 4),
                thing == CHAIN,
            ]:
                self.assertIs(told, False)
        self.assertEqual(repr(things), before)

    def test_what_is_returned_can_be_passed_back(self):
        for report in (CHAIN, TRIANGLE, TORN):
            word, shown = whole(report)
            wholes = [*tables(report), *([shown] if word == "whole" else [])]
            bets = [shown] if word == "bet" else []
            for thing in [shown, drops(report), *quarrels(report), *tables(report), report.scheme, report.text()]:
                self.assertIs(shows_whole(report, thing), thing in wholes)
                self.assertIs(shows_bet(report, thing), thing in bets)


if __name__ == "__main__":
    unittest.main()
