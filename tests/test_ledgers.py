"""Ledgers: points [80] and [81], and what point [90] and the general rules say of them."""

import unittest
from itertools import product

from piecetables.errors import Disagree, Lost, NoMany, NoPiece, NothingDone, NoTotal, TooMany
from piecetables.knots import trap
from piecetables.ledgers import Agreeing, Ledger, Loose
from piecetables.pieces import Piece
from piecetables.reports import Report, clash
from piecetables.wholes import shows_bet
from tests.helpers import (
    ALIKE, UNLIKE, chance, groups, has_whole, is_bet, is_int, random_piece, report_of, strange_values, twisted,
    random_counts,
)

KINDS = (Ledger, Agreeing, Loose)
TRIANGLE = [Piece(pair, UNLIKE) for pair in [(0, 1), (1, 2), (0, 2)]]
ZERO, ONE, EVEN = Piece((0,), (2, 0)), Piece((0,), (0, 2)), Piece((1,), (1, 1))
OTHER_TOTAL = Piece((0,), (3, 0))
FAR = Piece((3,), (2, 0))


class Failure(Exception):
    """What a test raises within a block."""


def filled(kind, many, *pieces):
    """Return a ledger that has taken these pieces one after another."""
    ledger = kind(many, pieces[0].total)
    for number, piece in enumerate(pieces, 1):
        if ledger.take(piece) != number:
            raise AssertionError("a wrong number of pieces")
    return ledger


def refusal(kind, many, total, held, piece):
    """Return what a ledger of a kind that holds some pieces is to raise for one more: a class, and its fields."""
    if not isinstance(piece, Piece) or piece.variables[-1] >= many:
        return (NoPiece,)
    if piece.total != total:
        return (NoTotal,)
    if len(held) == 5:
        return (TooMany, 6, 5)
    report = Report(many, *held, piece)
    if kind is Ledger and not has_whole(report):
        return (Lost, report)
    if kind is Agreeing and clash(report) is not None:
        return (Disagree, *clash(report)[:2])
    return None


class Base(unittest.TestCase):

    def check_state(self, ledger, kind, many, total, pieces):
        """Check all that a ledger tells of itself."""
        pieces = tuple(pieces)
        self.assertIs(type(ledger), kind)
        self.assertEqual((ledger.many, ledger.total, ledger.pieces), (many, total, pieces))
        self.assertIs(type(ledger.pieces), tuple)
        self.assertEqual(ledger.report, Report(many, *pieces) if pieces else None)
        told = {variable for piece in pieces for variable in piece.variables}
        self.assertEqual(ledger.untold, tuple(variable for variable in range(many) if variable not in told))
        self.assertTrue(all(map(is_int, ledger.untold)))
        self.assertEqual(len(ledger), len(pieces))
        self.assertEqual(repr(ledger), f"{kind.__name__}({many} variables, {len(pieces)} pieces)")
        for piece in [*pieces, *TRIANGLE, ZERO, ONE, EVEN, OTHER_TOTAL, FAR]:
            self.assertIs(piece in ledger, piece in pieces)
        same = filled(kind, many, *pieces) if pieces else kind(many, total)
        self.assertTrue(ledger == same)
        self.assertFalse(ledger != same)

    def check_refused(self, action, wanted):
        """Check that a deed raises what is wanted: a class, and its fields."""
        kind = wanted[0]
        with self.assertRaises(kind) as caught:
            action()
        error = caught.exception
        self.assertIs(type(error), kind)
        if kind is TooMany:
            self.assertEqual((error.amount, error.limit), wanted[1:])
        if kind is Disagree:
            self.assertEqual((error.first, error.second), wanted[1:])
        if kind is Lost:
            self.assertTrue(is_bet(wanted[1], error.stakes))
            self.assertIs(shows_bet(wanted[1], error.stakes), True)

    def check_piece_refused(self, ledger, piece, *wanted):
        """Check that take, the call and take_all refuse a piece, and that this changes nothing."""
        before = (type(ledger), ledger.many, ledger.total, ledger.pieces)
        for action in [ledger.take, ledger, ledger.take_all]:
            self.check_refused(lambda: action(piece), wanted)
            self.check_state(ledger, *before)
        self.check_refused(lambda: ledger.take_all(piece, None, OTHER_TOTAL), wanted)
        self.check_state(ledger, *before)


class Making(Base):

    def test_new_ones(self):
        for kind in KINDS:
            for many in range(1, 6):
                for total in (1, 2, 999, 1000):
                    ledger = kind(many, total)
                    self.check_state(ledger, kind, many, total, [])
                    self.assertIsNone(ledger.report)
                    self.assertEqual(ledger.untold, tuple(range(many)))
                    self.assertTrue(is_int(ledger.many) and is_int(ledger.total))

    def test_derived(self):
        self.assertEqual((Agreeing.__bases__, Loose.__bases__), ((Ledger,), (Ledger,)))

    def test_no_many(self):
        for kind in KINDS:
            for thing in [*strange_values(), 0, 6, -1, True, False, None, "3", (3,), [3], 10 ** 12]:
                if is_int(thing) and 1 <= thing <= 5:
                    self.assertEqual(kind(thing, 2).many, thing)
                    continue
                for total in (2, 1000, 0, 1001, None, True, thing):
                    self.check_refused(lambda: kind(thing, total), (NoMany,))

    def test_no_total(self):
        for kind in KINDS:
            for thing in [*strange_values(), 0, 1001, -1, True, False, None, "3", (3,), [3], 10 ** 12, ZERO]:
                if is_int(thing) and 1 <= thing <= 1000:
                    self.assertEqual(kind(3, thing).total, thing)
                    continue
                for many in (1, 3, 5):
                    self.check_refused(lambda: kind(many, thing), (NoTotal,))


class Taking(Base):

    def test_one_after_another(self):
        for kind in KINDS:
            ledger = kind(3, 2)
            for number, piece in enumerate([*TRIANGLE[:2], EVEN, Piece((0,), (1, 1)), TRIANGLE[0]], 1):
                self.assertEqual(ledger.take(piece) if number % 2 else ledger(piece), number)
                self.check_state(ledger, kind, 3, 2, [*TRIANGLE[:2], EVEN, Piece((0,), (1, 1)), TRIANGLE[0]][:number])

    def test_take_and_the_call_are_the_same(self):
        for kind in KINDS:
            taken, called = kind(3, 2), kind(3, 2)
            for piece in TRIANGLE[:2]:
                answers = (taken.take(piece), called(piece))
                self.assertEqual(answers, (len(taken),) * 2)
                self.assertTrue(is_int(answers[0]) and is_int(answers[1]))
                self.assertEqual(taken, called)

    def test_untold(self):
        ledger = Loose(5, 8)
        for piece, untold in [
            (Piece((3,), (4, 4)), (0, 1, 2, 4)), (Piece((0, 3), (2, 2, 2, 2)), (1, 2, 4)),
            (Piece((0, 1, 4), (1,) * 8), (2,)), (Piece((2,), (8, 0)), ()),
        ]:
            ledger.take(piece)
            self.assertEqual(ledger.untold, untold)
        self.assertEqual(Loose(1, 1).untold, (0,))

    def test_the_same_piece_five_times(self):
        for kind in KINDS:
            for many, piece in [(1, Piece((0,), (1, 0))), (5, Piece((2, 3, 4), (125,) * 8))]:
                ledger = filled(kind, many, *[piece] * 5)
                self.check_state(ledger, kind, many, piece.total, [piece] * 5)

    def test_in(self):
        ledger = filled(Loose, 3, ZERO, TRIANGLE[1])
        self.assertIn(Piece((0,), (2, 0)), ledger)
        self.assertIn(Piece((1, 2), UNLIKE), ledger)
        self.assertNotIn(ONE, ledger)
        for thing in [*strange_values(), 0, (0,), ledger, ledger.report, ledger.pieces, ZERO.counts, None, True]:
            self.assertIs(thing in ledger, False)
            self.assertIs(thing in Ledger(3, 2), False)

    def test_the_triangle(self):
        ledger = filled(Ledger, 3, *TRIANGLE[:2])
        self.check_piece_refused(ledger, TRIANGLE[2], Lost, Report(3, *TRIANGLE))
        self.assertEqual(ledger.take(Piece((0, 2), ALIKE)), 3)
        for kind in (Agreeing, Loose):
            ledger = filled(kind, 3, *TRIANGLE)
            self.check_state(ledger, kind, 3, 2, TRIANGLE)

    def test_pieces_that_disagree(self):
        held = [EVEN, ZERO, TRIANGLE[1]]
        self.check_piece_refused(filled(Ledger, 3, *held), ONE, Lost, Report(3, *held, ONE))
        self.check_piece_refused(filled(Agreeing, 3, *held), ONE, Disagree, 1, 3)
        self.check_piece_refused(filled(Agreeing, 3, *held), TRIANGLE[0], Disagree, 1, 3)
        self.check_piece_refused(filled(Agreeing, 3, *held), Piece((1, 2), (2, 0, 0, 0)), Disagree, 0, 3)
        self.check_piece_refused(filled(Agreeing, 1, ZERO), ONE, Disagree, 0, 1)
        self.assertEqual(filled(Loose, 3, *held).take(ONE), 4)
        self.assertEqual(filled(Loose, 3, ZERO, ONE, ZERO, ONE).take(TRIANGLE[0]), 5)

    def test_traps(self):
        for scheme in [
            (3, ((0, 1), (1, 2), (0, 2))), (4, ((0, 1), (1, 2), (2, 3), (0, 3))),
            (5, ((0, 1), (1, 2), (2, 3), (3, 4), (0, 4))), (4, ((0, 1, 2), (0, 1, 3), (0, 2, 3), (1, 2, 3))),
        ]:
            *others, last = trap(scheme).pieces
            self.check_piece_refused(filled(Ledger, scheme[0], *others), last, Lost, trap(scheme))
            for kind in (Agreeing, Loose):
                self.assertEqual(filled(kind, scheme[0], *others, last).report, trap(scheme))

    def test_no_piece(self):
        for kind in KINDS:
            for ledger in [kind(3, 2), filled(kind, 3, *TRIANGLE[:2]), filled(kind, 3, *[ZERO] * 5)]:
                for thing in [FAR, Piece((4,), (3, 0)), Piece((2, 3), ALIKE), ledger.report, ledger, None, 0, True,
                              ZERO.counts, repr(ZERO), [ZERO], (ZERO,), {0: ZERO}]:
                    self.check_piece_refused(ledger, thing, NoPiece)
        for kind in KINDS:
            ledger = kind(1, 5)
            for thing in strange_values():
                self.check_refused(lambda: ledger.take(thing), (NoPiece,))
                self.check_refused(lambda: ledger(thing), (NoPiece,))
                self.check_refused(lambda: ledger.take_all(Piece((0,), (5, 0)), thing), (NoPiece,))
            self.check_state(ledger, kind, 1, 5, [])

    def test_variables_of_pieces(self):
        for kind in KINDS:
            for many in range(1, 6):
                for group in groups(5):
                    piece = Piece(group, (1,) + (0,) * (2 ** len(group) - 1))
                    if group[-1] < many:
                        self.assertEqual(kind(many, 1).take(piece), 1)
                    else:
                        self.check_refused(lambda: kind(many, 1).take(piece), (NoPiece,))

    def test_no_total(self):
        for kind in KINDS:
            for ledger in [kind(3, 2), filled(kind, 3, *TRIANGLE[:2]), filled(kind, 3, *[ZERO] * 5)]:
                for piece in [OTHER_TOTAL, Piece((0,), (1, 0)), Piece((0,), (0, 1000)), Piece((0, 1, 2), (1,) * 8)]:
                    self.check_piece_refused(ledger, piece, NoTotal)
            self.check_refused(lambda: kind(3, 1000).take(Piece((0,), (0, 999))), (NoTotal,))

    def test_too_many(self):
        for kind in KINDS:
            ledger = filled(kind, 3, *[ZERO] * 5)
            for piece in [ZERO, ONE, EVEN, TRIANGLE[0]]:
                self.check_piece_refused(ledger, piece, TooMany, 6, 5)

    def test_random_pieces(self):
        source = chance(80)
        met = set()
        for _ in range(60):
            kind = source.choice(KINDS)
            many, total = source.randint(1, 5), source.choice([1, 2, 2, 5, 1000])
            ledger, held = kind(many, total), []
            for _ in range(10):
                piece = random_piece(source, source.choice(groups(many)), total)
                if source.random() < 0.1:
                    piece = random_piece(source, source.choice(groups(5)), source.choice([total, 3]))
                wanted = refusal(kind, many, total, held, piece)
                if wanted is None:
                    held.append(piece)
                    self.assertEqual(ledger.take(piece), len(held))
                else:
                    met.add((kind, wanted[0]))
                    self.check_refused(lambda: ledger.take(piece), wanted)
                self.check_state(ledger, kind, many, total, held)
        wanted = {(kind, error) for kind in KINDS for error in (NoPiece, NoTotal, TooMany)}
        self.assertEqual(met, wanted | {(Ledger, Lost), (Agreeing, Disagree)})

    def test_what_the_pieces_have(self):
        source = chance(81)
        for _ in range(40):
            many = source.choice([3, 4, 5])
            pairs = [group for group in groups(many) if len(group) == 2]
            chosen = [source.choice(pairs) for _ in range(7)]
            pieces = [twisted(source, piece) for group in chosen
                      for piece in report_of(many, random_counts(source, many), group).pieces]
            total = pieces[0].total
            for kind in KINDS:
                ledger = kind(many, total)
                for piece in pieces:
                    try:
                        ledger.take(piece)
                    except (Lost, Disagree, NoTotal, TooMany):
                        pass
                self.assertTrue(kind is not Ledger or has_whole(ledger.report))
                self.assertTrue(kind is Loose or clash(ledger.report) is None)


class TakingAll(Base):

    def test_all(self):
        for kind in KINDS:
            for size in range(6):
                pieces = [ZERO, EVEN, Piece((2,), (0, 2)), ZERO, Piece((0, 1), (1, 1, 0, 0))][:size]
                ledger = kind(3, 2)
                answer = ledger.take_all(*pieces)
                self.assertTrue(is_int(answer) and answer == size)
                self.check_state(ledger, kind, 3, 2, pieces)

    def test_behind_others(self):
        for kind in KINDS:
            ledger = filled(kind, 3, *TRIANGLE[:2])
            self.assertEqual(ledger.take_all(), 2)
            self.assertEqual(ledger.take_all(EVEN, TRIANGLE[0]), 4)
            self.check_state(ledger, kind, 3, 2, [*TRIANGLE[:2], EVEN, TRIANGLE[0]])
            self.assertEqual(ledger.take_all(), 4)
            self.assertEqual(ledger.take_all(EVEN), 5)

    def check_none_taken(self, ledger, pieces, *wanted):
        before = (type(ledger), ledger.many, ledger.total, ledger.pieces)
        for behind in [(), (None,), (OTHER_TOTAL, ONE), (FAR,), (ZERO,) * 9]:
            self.check_refused(lambda: ledger.take_all(*pieces, *behind), wanted)
            self.check_state(ledger, *before)

    def test_none(self):
        for kind in KINDS:
            for held in [[], [ZERO], [ZERO, EVEN]]:
                ledger = filled(kind, 3, *held) if held else kind(3, 2)
                self.check_none_taken(ledger, [EVEN, None], NoPiece)
                self.check_none_taken(ledger, [EVEN, ZERO, FAR], NoPiece)
                self.check_none_taken(ledger, [EVEN, OTHER_TOTAL], NoTotal)
                self.check_none_taken(ledger, [ZERO] * (6 - len(held)), TooMany, 6, 5)
                self.check_none_taken(ledger, [ZERO] * (5 - len(held)) + [ONE], TooMany, 6, 5)
                self.check_none_taken(ledger, [ZERO] * (5 - len(held)) + [OTHER_TOTAL], NoTotal)
                self.check_none_taken(ledger, [ZERO] * (5 - len(held)) + [[ZERO]], NoPiece)

    def test_those_before_it_count(self):
        self.check_none_taken(Ledger(3, 2), TRIANGLE, Lost, Report(3, *TRIANGLE))
        self.check_none_taken(filled(Ledger, 3, EVEN), TRIANGLE, Lost, Report(3, EVEN, *TRIANGLE))
        self.check_none_taken(Ledger(3, 2), [EVEN, ZERO, ONE], Lost, Report(3, EVEN, ZERO, ONE))
        self.check_none_taken(Agreeing(3, 2), [EVEN, ZERO, ONE], Disagree, 1, 2)
        self.check_none_taken(filled(Agreeing, 3, EVEN), [EVEN, ZERO, TRIANGLE[0]], Disagree, 2, 3)
        self.check_none_taken(filled(Agreeing, 3, EVEN, ZERO), [EVEN, EVEN, ONE], Disagree, 1, 4)
        self.assertEqual(Loose(3, 2).take_all(EVEN, ZERO, ONE), 3)
        self.assertEqual(Agreeing(3, 2).take_all(*TRIANGLE), 3)

    def test_as_one_after_another(self):
        things = [ZERO, ONE, EVEN, OTHER_TOTAL, FAR, None]
        for kind in KINDS:
            for pieces in product(things, repeat=3):
                ledger, held, wanted = kind(3, 2), [], None
                for piece in pieces:
                    wanted = wanted or refusal(kind, 3, 2, held, piece)
                    held.append(piece)
                if wanted is None:
                    self.assertEqual(ledger.take_all(*pieces), 3)
                    self.check_state(ledger, kind, 3, 2, pieces)
                else:
                    self.check_refused(lambda: ledger.take_all(*pieces), wanted)
                    self.check_state(ledger, kind, 3, 2, [])

    def test_arguments_stay_as_they_are(self):
        for kind in KINDS:
            things = [ZERO, [ZERO, [1]], {0: [1]}]
            before = repr(things)
            ledger = kind(3, 2)
            for thing in [things, *things[1:]]:
                self.check_refused(lambda: ledger.take(thing), (NoPiece,))
                self.check_refused(lambda: ledger.take_all(ZERO, thing), (NoPiece,))
            self.assertEqual(repr(things), before)


class Undoing(Base):

    def test_down_to_nothing(self):
        for kind in KINDS:
            pieces = [ZERO, EVEN, ZERO, Piece((2,), (1, 1)), EVEN]
            ledger = filled(kind, 3, *pieces)
            while pieces:
                self.assertEqual(ledger.undo(), pieces.pop())
                self.check_state(ledger, kind, 3, 2, pieces)
            for _ in range(2):
                self.check_refused(ledger.undo, (NothingDone,))
                self.check_state(ledger, kind, 3, 2, [])
            self.assertEqual(ledger.take(ONE), 1)
            self.check_state(ledger, kind, 3, 2, [ONE])

    def test_a_new_one(self):
        for kind in KINDS:
            self.check_refused(kind(5, 1000).undo, (NothingDone,))

    def test_what_was_refused_can_be_taken_then(self):
        ledger = filled(Ledger, 3, *TRIANGLE[:2])
        self.check_piece_refused(ledger, TRIANGLE[2], Lost, Report(3, *TRIANGLE))
        self.assertEqual(ledger.undo(), TRIANGLE[1])
        self.assertEqual(ledger.take(TRIANGLE[2]), 2)
        ledger = filled(Agreeing, 3, EVEN, ZERO)
        self.check_piece_refused(ledger, ONE, Disagree, 1, 2)
        self.assertEqual(ledger.undo(), ZERO)
        self.assertEqual(ledger.take(ONE), 2)
        ledger = filled(Loose, 3, *[ONE] * 5)
        self.check_piece_refused(ledger, ZERO, TooMany, 6, 5)
        self.assertEqual(ledger.undo(), ONE)
        self.assertEqual(ledger.take(ZERO), 5)

    def test_one_piece_after_all(self):
        for kind in KINDS:
            ledger = kind(3, 2)
            ledger.take_all(ZERO, EVEN)
            self.assertEqual(ledger.undo(), EVEN)
            self.check_state(ledger, kind, 3, 2, [ZERO])
            self.check_refused(lambda: ledger.take_all(EVEN, None), (NoPiece,))
            self.assertEqual(ledger.undo(), ZERO)


class Trying(Base):

    def test_a_block_that_ends_well(self):
        for kind in KINDS:
            ledger = filled(kind, 3, ZERO)
            with ledger.trying():
                self.assertEqual(ledger.take(EVEN), 2)
                self.assertEqual(ledger.undo(), EVEN)
                self.assertEqual(ledger.take_all(EVEN, EVEN), 3)
            self.check_state(ledger, kind, 3, 2, [ZERO, EVEN, EVEN])

    def test_an_exception_leaves_the_block(self):
        for kind in KINDS:
            for error in [Failure, ValueError, KeyError, NoPiece, Lost, KeyboardInterrupt, SystemExit, GeneratorExit]:
                ledger = filled(kind, 3, ZERO)
                raised = error(()) if error is Lost else error()
                with self.assertRaises(error) as caught:
                    with ledger.trying():
                        ledger.take_all(EVEN, EVEN)
                        self.check_state(ledger, kind, 3, 2, [ZERO, EVEN, EVEN])
                        raise raised
                self.assertIs(caught.exception, raised)
                self.check_state(ledger, kind, 3, 2, [ZERO])

    def test_pieces_given_back_in_the_block(self):
        for kind in KINDS:
            ledger = filled(kind, 3, ZERO, EVEN, EVEN)
            with self.assertRaises(NothingDone):
                with ledger.trying():
                    while True:
                        ledger.undo()
            self.check_state(ledger, kind, 3, 2, [ZERO, EVEN, EVEN])
            with self.assertRaises(Failure):
                with ledger.trying():
                    ledger.undo()
                    ledger.undo()
                    ledger.undo()
                    ledger.take(ONE)
                    raise Failure
            self.check_state(ledger, kind, 3, 2, [ZERO, EVEN, EVEN])

    def test_a_piece_refused_in_the_block(self):
        for kind, error in [(Ledger, Lost), (Agreeing, Disagree)]:
            ledger = filled(kind, 3, EVEN)
            with self.assertRaises(error):
                with ledger.trying():
                    ledger.take(ZERO)
                    ledger.take(ONE)
            self.check_state(ledger, kind, 3, 2, [EVEN])

    def test_an_exception_that_does_not_leave_the_block(self):
        for kind in KINDS:
            ledger = kind(3, 2)
            with ledger.trying():
                ledger.take(ZERO)
                self.check_refused(lambda: ledger.take(None), (NoPiece,))
                ledger.take(EVEN)
            self.check_state(ledger, kind, 3, 2, [ZERO, EVEN])

    def test_a_block_that_is_left_otherwise(self):
        def leave(ledger):
            for piece in (ZERO, EVEN):
                with ledger.trying():
                    ledger.take(piece)
                    continue
            while True:
                with ledger.trying():
                    ledger.take(EVEN)
                    break
            with ledger.trying():
                return ledger.take(ZERO)

        for kind in KINDS:
            ledger = kind(3, 2)
            self.assertEqual(leave(ledger), 4)
            self.check_state(ledger, kind, 3, 2, [ZERO, EVEN, EVEN, ZERO])

    def test_one_block_within_another(self):
        for kind in KINDS:
            for inner_fails, outer_fails in product((False, True), repeat=2):
                ledger = filled(kind, 3, ZERO)
                try:
                    with ledger.trying():
                        ledger.take(EVEN)
                        try:
                            with ledger.trying():
                                ledger.undo()
                                ledger.undo()
                                ledger.take(ONE)
                                if inner_fails:
                                    raise Failure
                        except Failure:
                            self.check_state(ledger, kind, 3, 2, [ZERO, EVEN])
                        held = [ZERO, EVEN] if inner_fails else [ONE]
                        self.check_state(ledger, kind, 3, 2, held)
                        ledger.take(EVEN)
                        if outer_fails:
                            raise Failure
                except Failure:
                    held = [ZERO]
                else:
                    held.append(EVEN)
                self.check_state(ledger, kind, 3, 2, held)

    def test_an_exception_that_leaves_two_blocks(self):
        for kind in KINDS:
            ledger = filled(kind, 3, ZERO)
            with self.assertRaises(Failure):
                with ledger.trying():
                    ledger.take(EVEN)
                    with ledger.trying():
                        ledger.take(EVEN)
                        raise Failure
            self.check_state(ledger, kind, 3, 2, [ZERO])

    def test_the_block_begins_where_it_stands(self):
        for kind in KINDS:
            ledger = kind(3, 2)
            trial = ledger.trying()
            ledger.take(ZERO)
            with self.assertRaises(Failure):
                with trial:
                    ledger.take(EVEN)
                    raise Failure
            self.check_state(ledger, kind, 3, 2, [ZERO])

    def test_one_context_manager_for_several_blocks(self):
        for kind in KINDS:
            ledger = kind(3, 2)
            trial = ledger.trying()
            with trial:
                ledger.take(ZERO)
            with self.assertRaises(Failure):
                with trial:
                    ledger.take(EVEN)
                    with trial:
                        ledger.take(EVEN)
                    with self.assertRaises(KeyError):
                        with trial:
                            ledger.take(ZERO)
                            raise KeyError
                    self.check_state(ledger, kind, 3, 2, [ZERO, EVEN, EVEN])
                    raise Failure
            self.check_state(ledger, kind, 3, 2, [ZERO])

    def test_two_ledgers(self):
        one, other = filled(Ledger, 3, ZERO), filled(Loose, 3, ZERO)
        with self.assertRaises(Failure):
            with one.trying():
                one.take(EVEN)
                other.take(EVEN)
                raise Failure
        self.check_state(one, Ledger, 3, 2, [ZERO])
        self.check_state(other, Loose, 3, 2, [ZERO, EVEN])

    def test_a_block_that_is_begun_changes_nothing(self):
        for kind in KINDS:
            ledger = filled(kind, 3, ZERO)
            ledger.trying()
            with ledger.trying():
                self.check_state(ledger, kind, 3, 2, [ZERO])
            self.check_state(ledger, kind, 3, 2, [ZERO])


class Comparing(Base):

    def test_equal(self):
        for kind in KINDS:
            self.assertTrue(kind(3, 2) == kind(3, 2))
            self.assertTrue(filled(kind, 3, ZERO, EVEN) == filled(kind, 3, Piece((0,), (2, 0)), EVEN))
            self.assertFalse(filled(kind, 3, ZERO, EVEN) != filled(kind, 3, ZERO, EVEN))
            ledger = filled(kind, 3, ZERO)
            self.assertTrue(ledger == ledger)

    def test_unequal(self):
        for kind in KINDS:
            ledger = filled(kind, 3, ZERO, EVEN)
            for other in [
                filled(kind, 4, ZERO, EVEN), filled(kind, 3, EVEN, ZERO), filled(kind, 3, ZERO), kind(3, 2),
                filled(kind, 3, ZERO, EVEN, EVEN), filled(kind, 3, ONE, EVEN),
            ]:
                self.assertIs(ledger == other, False)
                self.assertIs(other == ledger, False)
                self.assertIs(ledger != other, True)
            self.assertFalse(kind(3, 2) == kind(3, 3))
            self.assertFalse(kind(3, 2) == kind(2, 2))

    def test_other_classes(self):
        for one, other in product(KINDS, repeat=2):
            for pieces in [[ZERO], [ZERO, EVEN]]:
                ledgers = filled(one, 3, *pieces), filled(other, 3, *pieces)
                self.assertIs(ledgers[0] == ledgers[1], one is other)
                self.assertIs(ledgers[0] != ledgers[1], one is not other)
            self.assertIs(one(3, 2) == other(3, 2), one is other)

    def test_equal_to_nothing_else(self):
        for kind in KINDS:
            ledger = filled(kind, 3, ZERO)
            others = [ledger.report, ledger.pieces, ZERO, (3, 2, (ZERO,)), repr(ledger), 3, 1, None, True]
            for other in [*strange_values(), *others]:
                self.assertIs(ledger == other, False)
                self.assertIs(other == ledger, False)
                self.assertIs(ledger != other, True)

    def test_repr(self):
        self.assertEqual(repr(filled(Ledger, 3, ZERO, EVEN)), "Ledger(3 variables, 2 pieces)")
        self.assertEqual(repr(filled(Agreeing, 1, ZERO)), "Agreeing(1 variables, 1 pieces)")
        self.assertEqual(repr(Loose(5, 2)), "Loose(5 variables, 0 pieces)")


class Rules(Base):

    def test_asking_changes_nothing(self):
        for kind in KINDS:
            ledger = filled(kind, 3, ZERO, EVEN)
            for _ in range(2):
                self.check_state(ledger, kind, 3, 2, [ZERO, EVEN])

    def test_what_was_returned_stays_as_it_was(self):
        for kind in KINDS:
            ledger = filled(kind, 3, ZERO)
            before = (ledger.pieces, ledger.report, ledger.untold)
            ledger.take(EVEN)
            self.assertEqual(before, ((ZERO,), Report(3, ZERO), (1, 2)))

    def test_ledgers_beside_each_other(self):
        for kind in KINDS:
            one, other = kind(3, 2), kind(3, 2)
            one.take(ZERO)
            self.check_state(other, kind, 3, 2, [])
            other.take(ONE)
            self.check_state(one, kind, 3, 2, [ZERO])

    def test_properties_are_not_set(self):
        for kind in KINDS:
            ledger = filled(kind, 3, ZERO)
            for name in ("many", "total", "pieces", "report", "untold"):
                with self.assertRaises(AttributeError):
                    setattr(ledger, name, 1)
            self.check_state(ledger, kind, 3, 2, [ZERO])

    def test_a_long_session(self):
        source = chance(82)
        for kind in KINDS:
            ledger, held, kept = kind(3, 2), [], []
            things = [*TRIANGLE, ZERO, ONE, EVEN, OTHER_TOTAL, FAR, None, Piece((0, 1, 2), (1, 0, 0, 0, 0, 0, 0, 1))]
            for _ in range(400):
                deed = source.choice(["take", "take", "call", "all", "undo", "enter", "leave", "fail"])
                if deed in ("take", "call", "all"):
                    pieces = source.choices(things, k=source.randint(0, 3) if deed == "all" else 1)
                    self.do_take(ledger, kind, held, deed, pieces)
                elif deed == "undo" and held:
                    self.assertEqual(ledger.undo(), held.pop())
                elif deed == "undo":
                    self.check_refused(ledger.undo, (NothingDone,))
                elif deed == "enter":
                    kept.append((ledger.trying(), list(held)))
                    kept[-1][0].__enter__()
                elif kept:
                    trial, before = kept.pop()
                    if deed == "fail":
                        held = before
                    told = (Failure, Failure(), None) if deed == "fail" else (None, None, None)
                    self.assertFalse(trial.__exit__(*told))
                self.check_state(ledger, kind, 3, 2, held)

    def do_take(self, ledger, kind, held, deed, pieces):
        """Take pieces by a deed, and note those that are taken."""
        action = {"take": ledger.take, "call": ledger, "all": ledger.take_all}[deed]
        longer, wanted = list(held), None
        for piece in pieces:
            wanted = wanted or refusal(kind, 3, 2, longer, piece)
            longer.append(piece)
        if wanted is None:
            self.assertEqual(action(*pieces), len(longer))
            held[:] = longer
        else:
            self.check_refused(lambda: action(*pieces), wanted)


if __name__ == "__main__":
    unittest.main()
