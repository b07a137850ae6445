"""Which pieces to drop, and which ones quarrel: drops and quarrels of point [70]."""

import inspect
import unittest
from itertools import combinations, permutations, product

from piecetables.errors import NoReport
from piecetables.fewest import drops, quarrels
from piecetables.knots import trap
from piecetables.pieces import Piece
from piecetables.reports import Report, clash
from tests.helpers import (
    ALIKE, UNLIKE, chance, groups, has_whole, is_int, random_counts, random_piece, random_report, random_scheme,
    report_of, scheme_sets, strange_values, tuples_of, twisted,
)

PAIRS = ((0, 1), (1, 2), (0, 2))
TRIANGLE = Report(3, *[Piece(pair, UNLIKE) for pair in PAIRS])
PENTAGON = trap((5, ((0, 1), (1, 2), (2, 3), (3, 4), (0, 4))))
ZERO, ONE = Piece((0,), (1, 0)), Piece((0,), (0, 1))


def all_sets(report):
    """Return all sets of numbers of pieces, in order."""
    everyone = range(len(report.pieces))
    return [numbers for size in range(len(everyone) + 1) for numbers in combinations(everyone, size)]


def sets_with_whole(report):
    """Return the sets of numbers of pieces that have a whole, the empty one among them."""
    return {
        numbers for numbers in all_sets(report)
        if not numbers or has_whole(Report(report.many, *[report.pieces[number] for number in numbers]))
    }


class Base(unittest.TestCase):

    def check(self, report):
        """Check both answers set by set, and that they agree with each other, and return them."""
        good = sets_with_whole(report)
        everyone = range(len(report.pieces))
        fitting = [
            dropped for dropped in all_sets(report)
            if tuple(number for number in everyone if number not in dropped) in good
        ]
        minimal = [
            numbers for numbers in all_sets(report)
            if numbers not in good and all(numbers[:at] + numbers[at + 1:] in good for at in range(len(numbers)))
        ]
        dropped, quarrelling = drops(report), list(quarrels(report))
        self.assertEqual((dropped, quarrelling), (fitting[0], minimal), report.text())
        self.assertEqual((dropped == (), quarrelling == []), (has_whole(report),) * 2)
        for numbers in quarrelling:
            self.assertTrue(set(numbers) & set(dropped))
        return dropped, quarrelling


class Answers(Base):

    def test_by_hand(self):
        for report, dropped, quarrelling in [
            (Report(1, ZERO), (), []),
            (Report(1, ZERO, ZERO), (), []),
            (Report(1, ZERO, ONE), (0,), [(0, 1)]),
            (Report(1, ZERO, ONE, ONE), (0,), [(0, 1), (0, 2)]),
            (Report(1, ONE, ZERO, ONE), (1,), [(0, 1), (1, 2)]),
            (Report(1, ONE, ONE, ZERO), (2,), [(0, 2), (1, 2)]),
            (Report(1, ONE, ZERO, ONE, ZERO), (0, 2), [(0, 1), (0, 3), (1, 2), (2, 3)]),
            (Report(1, ONE, ZERO, ONE, ZERO, ZERO), (0, 2), [(0, 1), (0, 3), (0, 4), (1, 2), (2, 3), (2, 4)]),
            (TRIANGLE, (0,), [(0, 1, 2)]),
            (PENTAGON, (0,), [(0, 1, 2, 3, 4)]),
            (Report(3, *[Piece(pair, ALIKE) for pair in PAIRS]), (), []),
        ]:
            self.assertEqual(self.check(report), (dropped, quarrelling))

    def test_all_dropped_but_one(self):
        for size in range(1, 6):
            report = Report(1, *[Piece((0,), (number, 4 - number)) for number in range(size)])
            self.assertEqual(self.check(report), (tuple(range(size - 1)), list(combinations(range(size), 2))))
        counts = [(1, 1, 1, 0), (1, 1, 0, 1), (1, 0, 1, 1), (0, 1, 1, 1), (3, 0, 0, 0)]
        report = Report(5, *[Piece((1, 3), one) for one in counts])
        self.assertEqual(self.check(report)[0], (0, 1, 2, 3))

    def test_none_dropped(self):
        source = chance(70)
        for _ in range(60):
            self.assertEqual(self.check(random_report(source)), ((), []))
        for many in (1, 5):
            self.assertEqual(self.check(Report(many, ZERO)), ((), []))
            self.assertEqual(self.check(Report(many, *[ZERO] * 5)), ((), []))

    def test_one_quarrel_beside_another(self):
        # A triangle that goes round an odd number of times, and pieces that quarrel with single ones of it.
        pieces = TRIANGLE.pieces
        dropped, quarrelling = self.check(Report(3, *pieces, Piece((0, 1), ALIKE)))
        self.assertEqual((dropped, quarrelling), ((0,), [(0, 3), (0, 1, 2)]))
        dropped, quarrelling = self.check(Report(3, *pieces, Piece((0,), (2, 0))))
        self.assertEqual((dropped, quarrelling), ((0, 2), [(0, 3), (2, 3), (0, 1, 2)]))
        dropped, quarrelling = self.check(Report(3, Piece((0,), (2, 0)), *pieces, Piece((1,), (2, 0))))
        self.assertEqual((dropped, quarrelling), ((0, 1, 2), [(0, 1), (0, 3), (1, 4), (2, 4), (1, 2, 3)]))
        dropped, quarrelling = self.check(Report(3, *pieces, Piece((0, 1, 2), (1, 0, 0, 0, 0, 0, 0, 1))))
        self.assertEqual((dropped, quarrelling), ((0, 3), [(0, 3), (1, 3), (2, 3), (0, 1, 2)]))

    def test_two_triangles_with_a_common_piece(self):
        pairs = [(0, 1), (1, 2), (0, 2), (1, 3), (0, 3)]
        for common in range(5):
            order = pairs[1:]
            order.insert(common, pairs[0])
            dropped, quarrelling = self.check(Report(4, *[Piece(pair, UNLIKE) for pair in order]))
            self.assertEqual(dropped, (common,))
            self.assertEqual([len(numbers) for numbers in quarrelling], [3, 3])

    def test_all_small_ones(self):
        for size in (2, 3, 4, 5):
            for counts in product(tuples_of(2, 2), repeat=size):
                self.check(Report(1, *[Piece((0,), one) for one in counts]))
        for counts in product([ALIKE, UNLIKE, (2, 0, 0, 0), (1, 1, 0, 0)], repeat=3):
            self.check(Report(3, *map(Piece, PAIRS, counts)))

    def test_traps(self):
        # All pieces agree, so that no two quarrel.
        tried = 0
        for scheme in [*scheme_sets(4, 4)[::7], *scheme_sets(5, 5)[::997]]:
            report = trap(scheme)
            if report is not None:
                tried += 1
                dropped, quarrelling = self.check(report)
                self.assertTrue(dropped)
                self.assertGreaterEqual(min(len(numbers) for numbers in quarrelling), 3)
        self.assertGreater(tried, 50)

    def test_random_pieces(self):
        source = chance(71)
        answers = []
        for _ in range(150):
            many, chosen = random_scheme(source)
            total = source.choice([1, 2, 3, 5, 100, 1000])
            report = Report(many, *[random_piece(source, group, total) for group in chosen])
            answers.append(self.check(report))
        self.assertEqual({len(dropped) for dropped, _ in answers}, {0, 1, 2, 3, 4})

    def test_pieces_of_which_one_is_from_another_table(self):
        source = chance(72)
        sizes = set()
        for _ in range(80):
            many, size = source.choice([(3, 2), (4, 2), (4, 3), (5, 2)])
            alike = [group for group in groups(many) if len(group) == size]
            chosen = source.sample(alike, min(len(alike), source.randint(3, 5)))
            pieces = list(report_of(many, random_counts(source, many), *chosen).pieces)
            at = source.randrange(len(pieces))
            total = pieces[at].total
            pieces[at] = source.choice([twisted(source, pieces[at]), random_piece(source, chosen[at], total)])
            dropped, quarrelling = self.check(Report(many, *pieces))
            self.assertLessEqual(len(dropped), 1)
            self.assertTrue(all(at in numbers for numbers in quarrelling))
            sizes.update(len(numbers) for numbers in quarrelling)
        self.assertTrue({2, 3} <= sizes, sizes)

    def test_pieces_that_agree(self):
        source = chance(73)
        sizes = set()
        for _ in range(70):
            size = source.choice([2, 2, 3])
            alike = [group for group in groups(source.choice([4, 5])) if len(group) == size]
            report = Report(5, *[
                twisted(source, Piece(group, (6 - size,) * 2 ** size if size == 2 else (2,) * 8))
                for group in source.sample(alike, min(len(alike), 5))
            ])
            quarrelling = self.check(report)[1]
            if clash(report) is None:
                sizes.update(len(numbers) for numbers in quarrelling)
        self.assertTrue({3, 4} <= sizes, sizes)

    def test_any_order(self):
        pieces = [*TRIANGLE.pieces, Piece((0, 1), ALIKE), Piece((0,), (2, 0))]
        for order in permutations(pieces):
            self.check(Report(3, *order))

    def test_totals_of_a_thousand(self):
        counts = [(125,) * 8, (250, 0, 0, 250, 0, 250, 250, 0), (0, 250, 250, 0, 250, 0, 0, 250)]
        triples = [group for group in groups(4) if len(group) == 3]
        for chosen in product(counts, repeat=4):
            self.check(Report(4, *map(Piece, triples, chosen)))


class Rules(Base):

    def test_no_report(self):
        for thing in [*strange_values(), TRIANGLE.pieces, TRIANGLE.text(), TRIANGLE.scheme, [TRIANGLE], (TRIANGLE,)]:
            if isinstance(thing, Report):
                continue
            for action in [drops, lambda told: next(quarrels(told)), lambda told: list(quarrels(told))]:
                with self.assertRaises(NoReport) as caught:
                    action(thing)
                self.assertIs(type(caught.exception), NoReport)

    def test_generator(self):
        sets = quarrels(TRIANGLE)
        self.assertTrue(inspect.isgenerator(sets))
        self.assertEqual(next(sets), (0, 1, 2))
        self.assertIsNone(next(sets, None))

    def test_generators_beside_each_other(self):
        report = Report(1, ONE, ZERO, ONE, ZERO)
        first, second = quarrels(report), quarrels(report)
        self.assertEqual([*zip(first, second)], [(numbers, numbers) for numbers in quarrels(report)])
        self.assertEqual((next(first, None), next(second, None)), (None, None))

    def test_kinds(self):
        for thing in [drops(TRIANGLE), drops(Report(1, ZERO)), *quarrels(Report(1, ONE, ZERO, ONE, ZERO))]:
            self.assertTrue(type(thing) is tuple and all(map(is_int, thing)))

    def test_again_and_unchanged(self):
        for report in [TRIANGLE, PENTAGON, Report(1, ONE, ZERO, ONE, ZERO, ZERO)]:
            before = report.text()
            dropped, quarrelling = drops(report), list(quarrels(report))
            for other in [report, Report.read(before)]:
                self.assertEqual((drops(other), list(quarrels(other))), (dropped, quarrelling))
            self.assertEqual(report.text(), before)


if __name__ == "__main__":
    unittest.main()
