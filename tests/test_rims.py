"""Pairs around a ring: point [60], and what point [90] and the general rules say of it."""

import unittest
from itertools import combinations, combinations_with_replacement, permutations, product

from piecetables.errors import Disagree, NoReport, NoRing
from piecetables.knots import trap
from piecetables.pieces import Piece
from piecetables.reports import Report, clash
from piecetables.rims import rim
from tests.helpers import (
    ALIKE, UNLIKE, chance, groups, has_whole, is_int, random_counts, report_of, rows, scheme_sets, strange_values,
    tuples_of,
)

TRIANGLE = Report(3, Piece((0, 1), UNLIKE), Piece((1, 2), UNLIKE), Piece((0, 2), UNLIKE))
SQUARE = (4, ((0, 1), (1, 2), (2, 3), (0, 3)))
PENTAGON = (5, ((0, 1), (1, 2), (2, 3), (3, 4), (0, 4)))
EVEN = (1, 1, 1, 1)


def lies_around(chosen):
    """Tell, by walking from piece to piece, whether groups lie around a ring."""
    if len(chosen) < 3 or len(set(chosen)) < len(chosen) or any(len(group) != 2 for group in chosen):
        return False
    occurring = [variable for group in chosen for variable in group]
    if any(occurring.count(variable) != 2 for variable in occurring):
        return False
    reached = {0}
    while True:
        near = {
            number for number, group in enumerate(chosen)
            if any(set(group) & set(chosen[other]) for other in reached)
        }
        if near <= reached:
            return len(reached) == len(chosen)
        reached |= near


def unlike_count(piece):
    return sum(count for row, count in zip(rows(2), piece.counts) if row[0] != row[1])


def rims_of(report):
    """Return all sets of numbers that show that there is no whole, in order."""
    found = []
    everyone = range(len(report.pieces))
    unlike = [unlike_count(piece) for piece in report.pieces]
    for size in everyone:
        for numbers in combinations(everyone, size + 1):
            others = [number for number in everyone if number not in numbers]
            excess = sum(unlike[number] for number in numbers) - sum(unlike[number] for number in others)
            if (size + 1) % 2 and excess > size * report.total:
                found.append(numbers)
    return found


def pair_piece(pair, ones, total, both):
    """Return a piece whose variables are 1 in so many rows each, and both 1 in so many rows."""
    first, second = ones[pair[0]], ones[pair[1]]
    return Piece(pair, (total - first - second + both, second - both, first - both, both))


def limits_of_both(pair, ones, total):
    first, second = ones[pair[0]], ones[pair[1]]
    return max(0, first + second - total), min(first, second)


def ring_pairs(arranged):
    """Return the pairs around a ring of variables."""
    return [tuple(sorted(pair)) for pair in zip(arranged, arranged[1:] + arranged[:1])]


def random_ring(source, total):
    """Return a report of agreeing pieces around a ring, in any arrangement and any order."""
    size = source.choice([3, 4, 5])
    many = source.randint(size, 5)
    pairs = ring_pairs(source.sample(range(many), size))
    source.shuffle(pairs)
    middle = source.random() < 0.5
    ones = [total // 2 if middle else source.randint(0, total) for _ in range(many)]
    pieces = []
    for pair in pairs:
        low, high = limits_of_both(pair, ones, total)
        both = source.choice([low, high, source.randint(low, high)])
        pieces.append(pair_piece(pair, ones, total, both))
    return Report(many, *pieces)


class Base(unittest.TestCase):

    def check(self, report):
        """Check that the answer is the first set, found set by set, and None exactly if there is a whole."""
        answer = rim(report)
        self.assertEqual(answer, next(iter(rims_of(report)), None), report.text())
        self.assertIs(answer is None, has_whole(report), report.text())
        return answer

    def check_refused(self, report, kind):
        with self.assertRaises(kind) as caught:
            rim(report)
        self.assertIs(type(caught.exception), kind)
        return caught.exception

    def check_disagree(self, report):
        error = self.check_refused(report, Disagree)
        self.assertEqual((error.first, error.second), clash(report)[:2])
        self.assertIs(has_whole(report), False)


class Rims(Base):

    def test_by_hand(self):
        self.assertEqual(self.check(TRIANGLE), (0, 1, 2))
        self.assertIsNone(self.check(Report(3, *[Piece(pair, ALIKE) for pair in TRIANGLE.scheme[1]])))
        self.assertIsNone(self.check(Report(3, *[Piece(pair, EVEN) for pair in TRIANGLE.scheme[1]])))
        for at in range(3):
            pieces = [Piece(pair, ALIKE) for pair in TRIANGLE.scheme[1]]
            pieces[at] = Piece(pieces[at].variables, UNLIKE)
            self.assertEqual(self.check(Report(3, *pieces)), (at,))
            pieces = [Piece(pair, UNLIKE) for pair in TRIANGLE.scheme[1]]
            pieces[at] = Piece(pieces[at].variables, ALIKE)
            self.assertIsNone(self.check(Report(3, *pieces)))

    def test_traps(self):
        self.assertEqual(self.check(trap(TRIANGLE.scheme)), (0, 1, 2))
        self.assertEqual(self.check(trap(SQUARE)), (3,))
        self.assertEqual(self.check(trap(PENTAGON)), (4,))

    def test_pieces_that_are_alike_or_unlike_throughout(self):
        # There is a whole exactly if an even number of neighbours is unlike; otherwise the unlike ones show it.
        for many, pairs in [TRIANGLE.scheme, SQUARE, PENTAGON]:
            for signs in product((0, 1), repeat=len(pairs)):
                pieces = [Piece(pair, (ALIKE, UNLIKE)[sign]) for pair, sign in zip(pairs, signs)]
                unlike = tuple(number for number, sign in enumerate(signs) if sign)
                self.assertEqual(self.check(Report(many, *pieces)), unlike if len(unlike) % 2 else None)

    def test_all_small_ones(self):
        tried = {}
        for many, pairs, total in [(3, TRIANGLE.scheme[1], 1), (3, TRIANGLE.scheme[1], 2), (4, SQUARE[1], 1)]:
            for counts in product(tuples_of(4, total), repeat=len(pairs)):
                report = Report(many, *map(Piece, pairs, counts))
                if clash(report) is not None:
                    self.check_disagree(report)
                    continue
                answer = self.check(report)
                tried[total, answer] = tried.get((total, answer), 0) + 1
        self.assertIn((1, None), tried)
        # What one says alone is one row, so that a total of 1 has a whole whenever the pieces agree.
        self.assertEqual([key for key in tried if key[0] == 1], [(1, None)])
        self.assertEqual({answer for total, answer in tried if total == 2}, {None, (0,), (1,), (2,), (0, 1, 2)})

    def test_five_around_five_with_a_total_of_one(self):
        for row in rows(5):
            self.assertIsNone(self.check(report_of(5, [int(other == row) for other in rows(5)], *PENTAGON[1])))

    def test_random_rings(self):
        source = chance(60)
        answers = []
        for _ in range(500):
            report = random_ring(source, source.choice([2, 3, 4, 10, 99, 999, 1000]))
            answers.append((len(report), self.check(report) is None))
        self.assertEqual(set(answers), {(size, told) for size in (3, 4, 5) for told in (True, False)})

    def test_five_pieces_of_which_three_or_five_are_too_unlike(self):
        for total in (2, 4, 1000):
            half = [total // 2] * 5
            for size in (1, 3, 5):
                for numbers in combinations(range(5), size):
                    pieces = [
                        pair_piece(pair, half, total, 0 if number in numbers else total // 2)
                        for number, pair in enumerate(PENTAGON[1])
                    ]
                    self.assertEqual(self.check(Report(5, *pieces)), numbers)

    def test_one_row_more_or_less(self):
        # The unlike counts of the others are just enough for the first one, or for two rows of it too few.
        for total in (2, 3, 10, 999, 1000):
            ones = [total // 2] * 3
            for first in range(0, total // 2 + 1, max(1, total // 20)):
                for second in range(0, total // 2 + 1 - first, max(1, total // 20)):
                    pieces = [
                        pair_piece(pair, ones, total, total // 2 - unlike)
                        for pair, unlike in zip([(0, 1), (1, 2), (0, 2)], [first + second, first, second])
                    ]
                    self.assertIsNone(self.check(Report(3, *pieces)))
                    if first + second < total // 2:
                        pieces[0] = pair_piece((0, 1), ones, total, total // 2 - first - second - 1)
                        self.assertEqual(self.check(Report(3, *pieces)), (0,))

    def test_reports_of_a_table(self):
        source = chance(61)
        for _ in range(100):
            size = source.choice([3, 4, 5])
            pairs = ring_pairs(source.sample(range(5), size))
            self.assertIsNone(self.check(report_of(5, random_counts(source, 5), *pairs)))

    def test_any_arrangement_and_order(self):
        ones = [2, 1, 2, 2, 3]
        for arranged in permutations(range(5), 3):
            pairs = ring_pairs(arranged)
            for order in permutations(pairs):
                pieces = [pair_piece(pair, ones, 4, limits_of_both(pair, ones, 4)[0]) for pair in order]
                self.check(Report(5, *pieces))
        for arranged in permutations(range(5)):
            for last in (0, 1):
                # The piece between the first and the last variable is unlike, or the others are.
                pairs = ring_pairs(arranged)
                odd = pairs[-1]
                order = pairs[arranged[0]:] + pairs[:arranged[0]]
                pieces = [Piece(pair, UNLIKE if (pair == odd) == bool(last) else ALIKE) for pair in order]
                wanted = (order.index(odd),) if last else None
                self.assertEqual(self.check(Report(5, *pieces)), wanted)

    def test_variables_that_no_piece_has(self):
        for arranged in combinations(range(5), 3):
            pieces = [Piece(pair, UNLIKE) for pair in ring_pairs(arranged)]
            self.assertEqual(self.check(Report(5, *pieces)), (0, 1, 2))

    def test_first_in_order(self):
        # No report has two such sets, so that the first one is the only one.
        source = chance(62)
        for _ in range(300):
            self.assertLessEqual(len(rims_of(random_ring(source, source.choice([2, 5, 1000])))), 1)

    def test_kinds(self):
        answer = rim(TRIANGLE)
        self.assertTrue(type(answer) is tuple and all(map(is_int, answer)))

    def test_again_and_unchanged(self):
        for report in [TRIANGLE, trap(SQUARE), trap(PENTAGON), Report(3, *[Piece(pair, EVEN) for pair in [
                (0, 1), (1, 2), (0, 2)]])]:
            before = report.text()
            answer = rim(report)
            self.assertEqual((rim(report), rim(Report.read(before)), report.text()), (answer, answer, before))


class Refused(Base):

    def test_no_report(self):
        for thing in [*strange_values(), TRIANGLE.pieces, TRIANGLE.text(), TRIANGLE.scheme, [TRIANGLE], (TRIANGLE,)]:
            if not isinstance(thing, Report):
                self.check_refused(thing, NoReport)

    def test_all_schemes_of_pairs(self):
        pairs = [group for group in groups(5) if len(group) == 2]
        around = 0
        for size in range(1, 6):
            for chosen in combinations_with_replacement(pairs, size):
                report = Report(5, *[Piece(pair, EVEN) for pair in chosen])
                if lies_around(chosen):
                    around += 1
                    self.assertIsNone(rim(report))
                else:
                    self.check_refused(report, NoRing)
        # The triangles, the rings of four and those of five of five variables.
        self.assertEqual(around, 10 + 15 + 12)

    def test_all_small_schemes(self):
        for many, chosen in [*scheme_sets(3, 4), *scheme_sets(4, 3)]:
            report = Report(many, *[Piece(group, (8 // 2 ** len(group),) * 2 ** len(group)) for group in chosen])
            if lies_around(chosen):
                self.assertIsNone(rim(report))
            else:
                self.check_refused(report, NoRing)

    def test_no_ring(self):
        for chosen in [
            [(0, 1)], [(0, 1), (1, 2)], [(0, 1), (0, 1)], [(0, 1), (0, 1), (0, 1)], [(0, 1), (1, 2), (2, 3)],
            [(0, 1), (0, 2), (0, 3)], [(0, 1), (1, 2), (0, 2), (3, 4)], [(0, 1), (1, 2), (0, 2), (0, 2)],
            [(0, 1), (1, 2), (0, 2), (2, 3)], [(0, 1), (1, 2), (2, 3), (0, 3), (0, 2)],
            [(0, 1), (0, 1), (2, 3), (2, 3)], [(0, 1), (1, 2), (0, 2), (0, 1), (3, 4)],
        ]:
            self.check_refused(Report(5, *[Piece(pair, EVEN) for pair in chosen]), NoRing)

    def test_groups_of_other_sizes(self):
        pieces = [Piece(pair, (2, 2, 2, 2)) for pair in [(0, 1), (1, 2), (0, 2)]]
        for piece in [Piece((0,), (4, 4)), Piece((3,), (4, 4)), Piece((0, 1, 2), (1,) * 8), Piece((2, 3, 4), (1,) * 8)]:
            self.check_refused(Report(5, *pieces, piece), NoRing)
            self.check_refused(Report(5, piece, *pieces), NoRing)
            self.check_refused(Report(5, piece, piece, piece), NoRing)
        triples = [Piece(group, (1,) * 8) for group in [(0, 1, 2), (2, 3, 4), (0, 1, 4)]]
        self.check_refused(Report(5, *triples), NoRing)
        self.check_refused(Report(3, *[Piece((variable,), (1, 1)) for variable in (0, 1, 2, 0, 1)]), NoRing)

    def test_disagree(self):
        pairs = TRIANGLE.scheme[1]
        for at, numbers in [(0, (0, 1)), (1, (0, 1)), (2, (0, 2))]:
            pieces = [Piece(pair, ALIKE) for pair in pairs]
            pieces[at] = Piece(pairs[at], (2, 0, 0, 0))
            self.check_disagree(Report(3, *pieces))
            self.assertEqual(clash(Report(3, *pieces))[:2], numbers)
        pieces = [Piece(pair, ALIKE) for pair in PENTAGON[1]]
        pieces[3] = Piece((3, 4), (1, 0, 1, 0))
        self.check_disagree(Report(5, *pieces))
        self.assertEqual(clash(Report(5, *pieces)), (3, 4, (4,)))

    def test_no_ring_before_disagree(self):
        for report in [
            Report(1, Piece((0,), (1, 0)), Piece((0,), (0, 1))), Report(2, Piece((0, 1), ALIKE), Piece((0, 1), UNLIKE)),
            Report(3, Piece((0, 1), ALIKE), Piece((1, 2), (2, 0, 0, 0)), Piece((0, 1), UNLIKE)),
            Report(4, Piece((0, 1), ALIKE), Piece((1, 2), (2, 0, 0, 0)), Piece((2, 3), UNLIKE)),
        ]:
            self.assertIsNotNone(clash(report))
            self.check_refused(report, NoRing)


if __name__ == "__main__":
    unittest.main()
