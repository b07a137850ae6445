"""Pieces: point [11], and the general rules as far as they touch pieces."""

import unittest

from piecetables.errors import NoCounts, NoFactor, NoPiece, NoRow, NoVariables, TooMany
from piecetables.pieces import Piece
from piecetables.reports import Report
from tests.helpers import groups, is_int, rows, strange_values

GROUPS = groups(5)


def is_group(thing):
    return type(thing) is tuple and all(is_int(part) for part in thing) and thing in GROUPS


def are_counts(thing, size):
    if type(thing) is not tuple or len(thing) != size or not all(is_int(part) for part in thing):
        return False
    return min(thing) >= 0 and 1 <= sum(thing) <= 1000


class Making(unittest.TestCase):

    def test_properties(self):
        piece = Piece((0, 2), (1, 0, 3, 4))
        self.assertEqual((piece.variables, piece.counts, piece.total), ((0, 2), (1, 0, 3, 4), 8))
        self.assertIs(type(piece.variables), tuple)
        self.assertIs(type(piece.counts), tuple)
        self.assertIs(type(piece.total), int)

    def test_all_groups(self):
        self.assertEqual(len(GROUPS), 5 + 10 + 10)
        for group in GROUPS:
            piece = Piece(group, (0,) * (2 ** len(group) - 1) + (1000,))
            self.assertEqual((piece.variables, piece.total), (group, 1000))

    def test_what_is_no_group(self):
        wrong = [
            (), (0, 1, 2, 3), (0, 1, 2, 3, 4), (1, 0), (0, 0), (0, 2, 1), (0, 1, 1), (2, 1, 0), (1, 2, 0), (-1,), (5,),
            (0, 5), (-1, 0), (0, 1, 5), (True,), (False,), (0, True), (False, 1), (0, True, 2), [0], [0, 1], (0, None),
            ("0",), "0", 0, None, ((0,),), (0, (1,)), {0: 1}, (10 ** 12,), Piece((0,), (1, 1)),
        ]
        for variables in wrong:
            for counts in [(1, 1), (1, 1, 1, 1), (1,) * 8, (1,), (1,) * 16, None]:
                with self.assertRaises(NoVariables):
                    Piece(variables, counts)

    def test_what_are_no_counts(self):
        wrong = [
            (), (1,), (1, 1), (1, 1, 1), (1, 1, 1, 1, 1), (1,) * 8, [1, 1, 1, 1], (0, 0, 0, 0), (1, 1, 1, -1),
            (-1, 1, 1, 1), (1, 1, 1, True), (False, 1, 1, 1), (True, False, False, True), (1, 1, 1, None),
            (1, 1, 1, "1"), "1111", ((1, 1), (1, 1)), (1, 1, 1, (1,)), {0: 1, 1: 1, 2: 1, 3: 1}, 4, None, True,
            (1001, 0, 0, 0), (1000, 1, 0, 0), (500, 500, 0, 1), (-1, 1001, 0, 0), (1001, -1, 0, 0), (10 ** 12, 0, 0, 0),
            (250, 250, 250, 251),
        ]
        for counts in wrong:
            with self.assertRaises(NoCounts):
                Piece((0, 1), counts)

    def test_edges_of_counts(self):
        self.assertEqual(Piece((4,), (0, 1)).total, 1)
        self.assertEqual(Piece((4,), (1000, 0)).total, 1000)
        self.assertEqual(Piece((0, 1), (250, 250, 250, 250)).total, 1000)
        self.assertEqual(Piece((0, 1, 2), (0, 0, 0, 0, 0, 0, 0, 1)).total, 1)
        with self.assertRaises(NoCounts):
            Piece((4,), (0, 0))
        with self.assertRaises(NoCounts):
            Piece((4,), (1000, 1))

    def test_any_value(self):
        for thing in strange_values():
            if is_group(thing):
                self.assertEqual(Piece(thing, (1,) * 2 ** len(thing)).variables, thing)
            else:
                with self.assertRaises(NoVariables):
                    Piece(thing, (1, 1))
                with self.assertRaises(NoVariables):
                    Piece(thing, thing)
            for group in ((0,), (0, 1), (0, 1, 2)):
                if are_counts(thing, 2 ** len(group)):
                    self.assertEqual(Piece(group, thing).counts, thing)
                else:
                    with self.assertRaises(NoCounts):
                        Piece(group, thing)

    def test_arguments_stay_as_they_are(self):
        for wrong in ([0, 1], {0: 1}, [[0], [1]]):
            before = repr(wrong)
            with self.assertRaises(NoVariables):
                Piece(wrong, wrong)
            with self.assertRaises(NoCounts):
                Piece((0,), wrong)
            self.assertEqual(repr(wrong), before)


class Parts(unittest.TestCase):

    def setUp(self):
        self.piece = Piece((0, 2, 4), (1, 2, 4, 8, 16, 32, 64, 128))

    def test_parts(self):
        self.assertEqual(self.piece((0,)), Piece((0,), (15, 240)))
        self.assertEqual(self.piece((2,)), Piece((2,), (51, 204)))
        self.assertEqual(self.piece((4,)), Piece((4,), (85, 170)))
        self.assertEqual(self.piece((0, 2)), Piece((0, 2), (3, 12, 48, 192)))
        self.assertEqual(self.piece((0, 4)), Piece((0, 4), (5, 10, 80, 160)))
        self.assertEqual(self.piece((2, 4)), Piece((2, 4), (17, 34, 68, 136)))
        self.assertEqual(self.piece((0, 2, 4)), self.piece)

    def test_parts_of_parts(self):
        self.assertEqual(self.piece((0, 4))((4,)), self.piece((4,)))
        self.assertEqual(Piece((1, 3), (1, 2, 3, 4))((3,)), Piece((3,), (4, 6)))
        self.assertEqual(Piece((3,), (4, 6))((3,)), Piece((3,), (4, 6)))

    def test_what_is_no_group_of_its_variables(self):
        wrong = [(), (1,), (3,), (0, 1), (2, 3), (0, 2, 3), (2, 0), (0, 0), (4, 2), (0, 2, 4, 4), (0, 1, 2, 4), (5,),
                 (-1,), (False,), (False, 2), [0], [0, 2], 0, "0", None, self.piece, ((0,),)]
        for variables in wrong:
            with self.assertRaises(NoVariables):
                self.piece(variables)

    def test_any_value(self):
        for thing in strange_values():
            if is_group(thing) and all(variable in (0, 2, 4) for variable in thing):
                self.assertEqual(self.piece(thing).variables, thing)
            else:
                with self.assertRaises(NoVariables):
                    self.piece(thing)


class Counts(unittest.TestCase):

    def test_rows(self):
        for size in (1, 2, 3):
            counts = tuple(range(1, 2 ** size + 1))
            piece = Piece(tuple(range(1, size + 1)), counts)
            self.assertEqual([piece[row] for row in rows(size)], list(counts))
        self.assertEqual(Piece((0, 2), (1, 0, 3, 4))[1, 0], 3)
        self.assertEqual(Piece((3,), (6, 7))[(1,)], 7)

    def test_what_is_no_row(self):
        wrong = [(), (0,), (0, 1, 0), (0, 2), (2, 0), (-1, 0), (0, -1), (True, 0), (0, False), (True, True), [0, 1],
                 "01", 0, 1, None, True, ((0, 1),), (0, None), ("0", "1"), {0: 1}]
        for row in wrong:
            with self.assertRaises(NoRow):
                Piece((0, 1), (1, 2, 3, 4))[row]

    def test_any_value(self):
        piece = Piece((1,), (3, 4))
        for thing in strange_values():
            if type(thing) is tuple and len(thing) == 1 and is_int(thing[0]) and thing in [(0,), (1,)]:
                self.assertEqual(piece[thing], piece.counts[thing[0]])
            else:
                with self.assertRaises(NoRow):
                    piece[thing]

    def test_len(self):
        self.assertEqual(len(Piece((3,), (1, 0))), 2)
        self.assertEqual(len(Piece((0, 3), (1, 0, 0, 0))), 4)
        self.assertEqual(len(Piece((0, 3, 4), (1,) * 8)), 8)

    def test_variables(self):
        piece = Piece((0, 1, 4), (1,) * 8)
        self.assertEqual([variable for variable in range(-2, 8) if variable in piece], [0, 1, 4])
        for thing in strange_values():
            self.assertIs(thing in piece, is_int(thing) and thing in (0, 1, 4))
        self.assertNotIn(True, piece)
        self.assertNotIn(False, piece)
        self.assertNotIn((0,), piece)
        self.assertNotIn("0", piece)


class Adding(unittest.TestCase):

    def test_sum(self):
        one = Piece((0, 2), (1, 0, 3, 4))
        more = Piece((0, 2), (0, 5, 1, 1))
        self.assertEqual(one + more, Piece((0, 2), (1, 5, 4, 5)))
        self.assertEqual(one + one, Piece((0, 2), (2, 0, 6, 8)))
        self.assertEqual((one.counts, more.counts), ((1, 0, 3, 4), (0, 5, 1, 1)))

    def test_sum_at_the_limit(self):
        half = Piece((3,), (500, 0))
        self.assertEqual((half + Piece((3,), (0, 500))).total, 1000)
        with self.assertRaises(TooMany) as caught:
            half + Piece((3,), (1, 500))
        self.assertEqual((caught.exception.amount, caught.exception.limit), (1001, 1000))
        with self.assertRaises(TooMany) as caught:
            Piece((3,), (1000, 0)) + Piece((3,), (0, 1000))
        self.assertEqual((caught.exception.amount, caught.exception.limit), (2000, 1000))
        self.assertEqual(half, Piece((3,), (500, 0)))

    def test_no_piece(self):
        piece = Piece((0, 2), (1, 0, 3, 4))
        for other in [*strange_values(), Piece((0, 1), (1, 0, 3, 4)), Piece((0,), (4, 4)), Report(3, piece)]:
            with self.assertRaises(NoPiece):
                piece + other
        self.assertEqual(piece, Piece((0, 2), (1, 0, 3, 4)))

    def test_no_piece_comes_before_too_many(self):
        with self.assertRaises(NoPiece):
            Piece((0,), (1000, 0)) + Piece((1,), (1000, 0))

    def test_product(self):
        piece = Piece((0, 2), (1, 0, 3, 4))
        self.assertEqual(piece * 3, Piece((0, 2), (3, 0, 9, 12)))
        self.assertEqual(piece * 1, piece)
        self.assertEqual((piece * 125).total, 1000)
        self.assertEqual(piece, Piece((0, 2), (1, 0, 3, 4)))

    def test_product_beyond_the_limit(self):
        piece = Piece((0, 2), (1, 0, 3, 4))
        for factor in (126, 1000, 10 ** 12):
            with self.assertRaises(TooMany) as caught:
                piece * factor
            self.assertEqual((caught.exception.amount, caught.exception.limit), (8 * factor, 1000))
        with self.assertRaises(TooMany) as caught:
            Piece((0,), (1, 0)) * 1001
        self.assertEqual((caught.exception.amount, caught.exception.limit), (1001, 1000))
        self.assertEqual((Piece((0,), (1, 0)) * 1000).counts, (1000, 0))

    def test_no_factor(self):
        piece = Piece((0, 2), (1, 0, 3, 4))
        for factor in strange_values():
            if is_int(factor) and factor >= 1:
                continue
            with self.assertRaises(NoFactor):
                piece * factor
        for factor in (0, -1, True, False, None, "2", (2,), [2], piece):
            with self.assertRaises(NoFactor):
                piece * factor
        self.assertEqual(piece, Piece((0, 2), (1, 0, 3, 4)))


class Comparing(unittest.TestCase):

    def test_equal(self):
        piece = Piece((0, 2), (1, 0, 3, 4))
        self.assertTrue(piece == Piece((0, 2), (1, 0, 3, 4)))
        self.assertFalse(piece != Piece((0, 2), (1, 0, 3, 4)))
        for other in [Piece((0, 1), (1, 0, 3, 4)), Piece((0, 2), (1, 0, 4, 3)), Piece((2,), (4, 4)),
                      Piece((0, 2), (2, 0, 6, 8))]:
            self.assertFalse(piece == other)
            self.assertTrue(piece != other)

    def test_equal_to_nothing_else(self):
        piece = Piece((0, 2), (1, 0, 3, 4))
        others = [(piece.variables, piece.counts), piece.counts, piece.variables, repr(piece), Report(3, piece), 8]
        for other in [*strange_values(), *others]:
            self.assertIs(piece == other, False)
            self.assertIs(other == piece, False)
            self.assertIs(piece != other, True)

    def test_repr(self):
        self.assertEqual(repr(Piece((0, 2), (1, 0, 3, 4))), "Piece(0 2: 1 0 3 4)")
        self.assertEqual(repr(Piece((4,), (1000, 0))), "Piece(4: 1000 0)")
        self.assertEqual(repr(Piece((0, 1, 2), (1, 2, 3, 4, 5, 6, 7, 8))), "Piece(0 1 2: 1 2 3 4 5 6 7 8)")

    def test_pieces_do_not_change(self):
        piece = Piece((0, 2), (1, 0, 3, 4))
        piece + piece
        piece * 2
        piece((0,))
        piece[0, 1]
        for wrong in (lambda: piece + 1, lambda: piece * 0, lambda: piece((1,)), lambda: piece[0]):
            with self.assertRaises(ValueError):
                wrong()
        self.assertEqual((piece.variables, piece.counts, piece.total), ((0, 2), (1, 0, 3, 4), 8))
        self.assertEqual(piece((0,)), piece((0,)))


if __name__ == "__main__":
    unittest.main()
