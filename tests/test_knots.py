"""Shells, rings and traps: points [41] and [42], and what point [90] says of them."""

import unittest
from itertools import permutations

from piecetables.errors import NoScheme
from piecetables.knots import knot, shows_knot, trap
from piecetables.pieces import Piece
from piecetables.reports import Report, clash
from piecetables.schemes import is_scheme, steps
from piecetables.wholes import shows_bet, shows_whole, whole
from tests.helpers import (
    ALIKE, UNLIKE, chance, first_knot, groups, is_bet, is_int, is_ring, is_shell, is_whole, nested, random_counts,
    random_scheme, report_of, rows, scheme_sets, schemes, strange_values, twisted, variants,
)

TRIANGLE = (3, ((0, 1), (1, 2), (0, 2)))
TETRAHEDRON = (4, ((0, 1, 2), (0, 1, 3), (0, 2, 3), (1, 2, 3)))
SQUARE = (4, ((0, 1), (1, 2), (2, 3), (0, 3)))
PENTAGON = (5, ((0, 1), (1, 2), (2, 3), (3, 4), (0, 4)))
CHAIN = (4, ((0, 1), (1, 2), (2, 3)))

NO_SCHEMES = (
    None, 1, (), (1, ()), (0, ((0,),)), (6, ((0,),)), (True, ((0,),)), (1, ((0,),) * 6), (2, ((0, True),)),
    (2, ((1, 0),)), (2, ((0, 2),)), (2, [(0, 1)]), [2, ((0, 1),)], (2, ([0, 1],)), (5, ((0, 1, 2, 3),)), (1, ((),)),
)


def is_knot(scheme, thing):
    """Tell whether a value is a shell or a ring with its word."""
    if type(thing) is not tuple or len(thing) != 2 or type(thing[0]) is not str:
        return False
    word, variables = thing
    return (word == "shell" and is_shell(scheme[1], variables)) or (word == "ring" and is_ring(scheme[1], variables))


def random_knotted(source):
    """Return a scheme of five variables in which, often, a shell or ring is hidden."""
    _, chosen = source.choice([TRIANGLE, TETRAHEDRON, SQUARE, PENTAGON])
    names = source.sample(range(5), 5)
    changed = []
    for group in chosen:
        variables = {names[variable] for variable in group}
        if len(variables) < 3 and source.random() < 0.3:
            variables.add(source.randrange(5))
        changed.append(tuple(sorted(variables)))
    if len(changed) < 5 and source.random() < 0.5:
        changed.append(source.choice(groups(5)))
    return (5, tuple(source.sample(changed, len(changed))))


def trap_counts(scheme, found, group):
    """Return the counts that the trap has for a group, as the document tells them."""
    word, variables = found
    counts = [0] * 2 ** len(group)
    if word == "ring":
        for value in (0, 1):
            values = {variable: value if variable in variables else 0 for variable in group}
            if variables[0] in group and variables[-1] in group:
                values[variables[0]] = 1 - value
            counts[rows(len(group)).index(tuple(values[variable] for variable in group))] += 1
        return tuple(counts)
    for row in rows(len(variables)):
        if row == (0,) * len(row):
            count = -1
        elif row[:3] == (1, 1, 1) and row[3:] in ((), (0,)):
            count = 0
        else:
            count = sum(row) % 2
        values = dict(zip(variables, row))
        counts[rows(len(group)).index(tuple(values.get(variable, 0) for variable in group))] += count
    return tuple(counts)


class Knot(unittest.TestCase):

    def test_by_hand(self):
        for scheme, wanted in [
            (TRIANGLE, ("shell", (0, 1, 2))), (TETRAHEDRON, ("shell", (0, 1, 2, 3))),
            (SQUARE, ("ring", (0, 1, 2, 3))), (PENTAGON, ("ring", (0, 1, 2, 3, 4))), (CHAIN, None),
            ((4, ((0, 2), (0, 3), (1, 2), (1, 3))), ("ring", (0, 2, 1, 3))),
            ((4, ((2, 3), (0, 2), (1, 3), (0, 1))), ("ring", (0, 1, 3, 2))),
            ((5, ((1, 2), (2, 4), (3, 4), (1, 3))), ("ring", (1, 2, 4, 3))),
            ((5, ((0, 2), (2, 4), (1, 4), (1, 3), (0, 3))), ("ring", (0, 2, 4, 1, 3))),
            ((5, ((0, 3), (3, 4), (2, 4), (1, 2), (0, 1))), ("ring", (0, 1, 2, 4, 3))),
            # Groups of three variables, only two of which are in the ring or the shell.
            ((5, ((0, 1, 4), (1, 2), (2, 3), (0, 3, 4))), ("ring", (0, 1, 2, 3))),
            ((5, ((0, 1, 3), (1, 2, 4), (0, 2))), ("shell", (0, 1, 2))),
            ((5, ((2, 3), (3, 4), (2, 4), (0, 1))), ("shell", (2, 3, 4))),
            # The smaller set comes first, and a set of three before a ring of four.
            ((5, ((0, 1), (1, 2), (2, 3), (0, 3), (0, 2))), ("shell", (0, 1, 2))),
            ((5, ((0, 1, 2), (0, 1, 3), (0, 2, 3), (1, 4), (2, 4))), ("shell", (1, 2, 3))),
            ((5, ((0, 1, 2), (0, 1, 3), (0, 2, 3), (1, 2), (1, 3))), ("shell", (1, 2, 3))),
            ((5, ((1, 2, 3), (1, 2, 4), (1, 3, 4), (2, 3, 4), (0,))), ("shell", (1, 2, 3, 4))),
            # A group that has all variables of the shell, but not of another one.
            ((4, ((0, 1), (1, 2), (0, 2), (0, 1, 2))), None),
            ((4, ((0, 1, 2), (0, 3), (1, 3))), ("shell", (0, 1, 3))),
            ((1, ((0,),)), None), ((1, ((0,),) * 5), None), ((5, ((0, 1, 2),)), None), ((5, ((2, 3, 4),) * 5), None),
            ((5, ((0,), (1,), (2,), (3,), (4,))), None), ((5, ((0, 1, 2), (2, 3, 4))), None),
        ]:
            self.assertEqual(knot(scheme), wanted, scheme)
            self.assertEqual(first_knot(*scheme), wanted, scheme)

    def check(self, scheme):
        """Check the knot and the trap of a scheme, and return the word."""
        found = knot(scheme)
        self.assertEqual(found, first_knot(*scheme), scheme)
        self.assertIs(found is None, steps(scheme) is not None, scheme)
        report = trap(scheme)
        if found is None:
            self.assertIsNone(report)
            return None
        self.assertIs(shows_knot(scheme, found), True)
        self.check_trap(scheme, found, report)
        return (found[0], len(found[1]))

    def check_trap(self, scheme, found, report):
        self.assertIsInstance(report, Report)
        self.assertEqual(report.scheme, scheme)
        for group, piece in zip(scheme[1], report.pieces):
            self.assertEqual(piece, Piece(group, trap_counts(scheme, found, group)))
        self.assertIsNone(clash(report))
        word, stakes = whole(report)
        self.assertEqual(word, "bet")
        self.assertTrue(is_bet(report, stakes))
        self.assertIs(shows_bet(report, stakes), True)

    def test_all_of_a_few_variables_and_groups(self):
        for many, most in [(1, 5), (2, 3), (3, 3)]:
            for scheme in schemes(many, most):
                self.check(scheme)

    def test_all_sets_of_groups(self):
        said = [self.check(scheme) for scheme in [*scheme_sets(3, 4), *scheme_sets(4, 3)]]
        self.assertEqual(set(said), {None, ("shell", 3)})

    def test_all_orders(self):
        for many, chosen in [TRIANGLE, TETRAHEDRON, SQUARE, CHAIN]:
            for order in permutations(chosen):
                self.assertEqual(knot((many, order)), knot((many, chosen)))
                self.check((many, order))

    def test_all_names(self):
        said = []
        for many, chosen in [TRIANGLE, SQUARE, PENTAGON, TETRAHEDRON]:
            for names in permutations(range(5), many):
                renamed = tuple(tuple(sorted(names[variable] for variable in group)) for group in chosen)
                said.append(self.check((5, renamed)))
        self.assertEqual(set(said), {("shell", 3), ("shell", 4), ("ring", 4), ("ring", 5)})

    def test_random_ones(self):
        source = chance(41)
        said = [self.check(random_scheme(source)) for _ in range(500)]
        said.extend([self.check(random_knotted(source)) for _ in range(500)])
        for word in [None, ("shell", 3), ("shell", 4), ("ring", 4), ("ring", 5)]:
            self.assertGreater(said.count(word), 10)


class Trap(unittest.TestCase):

    def test_by_hand(self):
        pair = Piece((0, 1), UNLIKE)
        self.assertEqual(trap(TRIANGLE), Report(3, pair, Piece((1, 2), UNLIKE), Piece((0, 2), UNLIKE)))
        self.assertEqual(trap(SQUARE).text(), "variables 4\n0 1: 1 0 0 1\n1 2: 1 0 0 1\n2 3: 1 0 0 1\n0 3: 0 1 1 0\n")
        self.assertEqual(
            trap(PENTAGON),
            Report(5, *[Piece(group, ALIKE) for group in PENTAGON[1][:4]], Piece((0, 4), UNLIKE)))
        self.assertEqual(trap(TETRAHEDRON).text(), "".join([
            "variables 4\n", "0 1 2: 0 1 1 1 1 1 1 0\n", "0 1 3: 0 1 1 1 1 1 0 1\n", "0 2 3: 0 1 1 1 1 1 0 1\n",
            "1 2 3: 0 1 1 1 1 1 0 1\n"]))
        self.assertIsNone(trap(CHAIN))
        self.assertIsNone(trap((1, ((0,),))))

    def test_other_variables_are_zero(self):
        scheme = (5, ((0, 1, 4), (1, 2), (2, 3), (0, 3, 4), (4,)))
        self.assertEqual(knot(scheme), ("ring", (0, 1, 2, 3)))
        self.assertEqual(trap(scheme).text(), "".join([
            "variables 5\n", "0 1 4: 1 0 0 0 0 0 1 0\n", "1 2: 1 0 0 1\n", "2 3: 1 0 0 1\n",
            "0 3 4: 0 0 1 0 1 0 0 0\n", "4: 2 0\n"]))
        scheme = (5, ((0, 1, 3), (1, 2, 4), (0, 2), (3, 4), (3,)))
        self.assertEqual(knot(scheme), ("shell", (0, 1, 2)))
        self.assertEqual(trap(scheme).text(), "".join([
            "variables 5\n", "0 1 3: 0 0 1 0 1 0 0 0\n", "1 2 4: 0 0 1 0 1 0 0 0\n", "0 2: 0 1 1 0\n",
            "3 4: 2 0 0 0\n", "3: 2 0\n"]))

    def test_repeated_groups_and_parts(self):
        pieces = [Piece(pair, UNLIKE) for pair in TRIANGLE[1]]
        scheme = (3, TRIANGLE[1] + ((0, 1), (2,)))
        self.assertEqual(trap(scheme), Report(3, *pieces, pieces[0], Piece((2,), (1, 1))))
        scheme = (4, SQUARE[1] + ((0, 3),))
        self.assertEqual(trap(scheme), trap(SQUARE) + Piece((0, 3), UNLIKE))
        scheme = (4, TETRAHEDRON[1] + ((0, 1),))
        self.assertEqual(trap(scheme), trap(TETRAHEDRON) + Piece((0, 1), (1, 2, 2, 1)))

    def test_totals(self):
        for scheme, total in [(TRIANGLE, 2), (SQUARE, 2), (PENTAGON, 2), (TETRAHEDRON, 6)]:
            self.assertEqual(trap(scheme).total, total)


class ShowsKnot(unittest.TestCase):

    def check(self, scheme, thing):
        wanted = is_knot(scheme, thing)
        self.assertIs(shows_knot(scheme, thing), wanted, (scheme, thing))
        return wanted

    def test_rings_begun_elsewhere_or_the_other_way_round(self):
        for scheme in (SQUARE, PENTAGON):
            ring = knot(scheme)[1]
            size = len(ring)
            found = [thing for thing in permutations(range(5), size) if self.check(scheme, ("ring", thing))]
            turned = [ring[at:] + ring[:at] for at in range(size)]
            self.assertEqual(sorted(found), sorted([*turned, *[thing[::-1] for thing in turned]]))

    def test_any_shell_or_ring(self):
        scheme = (5, ((0, 1), (0, 2), (1, 2, 3), (2, 4), (3, 4)))
        found = [
            (word, thing) for word in ("shell", "ring") for size in range(6) for thing in permutations(range(5), size)
            if self.check(scheme, (word, thing))
        ]
        self.assertEqual(found, [("shell", (0, 1, 2)), ("shell", (2, 3, 4))])
        scheme = (5, ((0, 1), (1, 2), (2, 3), (0, 3, 4), (1, 4)))
        for thing in [("shell", (0, 1, 4)), ("ring", (0, 1, 2, 3)), ("ring", (1, 2, 3, 4))]:
            self.assertIs(shows_knot(scheme, thing), True)

    def test_all_sets_and_orders(self):
        source = chance(42)
        words = []
        for scheme in [TRIANGLE, TETRAHEDRON, *[random_knotted(source) for _ in range(30)]]:
            for size in range(6):
                for thing in permutations(range(5), size):
                    for word in ("shell", "ring"):
                        words.append((word, self.check(scheme, (word, thing))))
        self.assertEqual(len(set(words)), 4)

    def test_variables_of_another_kind(self):
        for scheme in [TRIANGLE, TETRAHEDRON, SQUARE, PENTAGON]:
            word, variables = knot(scheme)
            for thing in [
                (word, list(variables)), [word, variables], (word, (False,) + variables[1:]),
                (word, (variables[0], True) + variables[2:]), (word, variables + (variables[0],)),
                (word, variables[:-1]), (word, variables, variables), (word,), (variables, word), word, variables,
                (word, *variables),
                ("knot", variables), (f"{word} ", variables), (word.upper(), variables), ("", variables),
                (None, variables), (True, variables), (0, variables), (b"ring", variables), ([word], variables),
                (word, ()), (word, None), (word, 0), (word, "0123"), (word, dict.fromkeys(variables)),
                (word, tuple(str(variable) for variable in variables)), {0: word, 1: variables}, ((word, variables),),
                (word, variables[:-1] + (5,)), (word, variables[:-1] + (-1,)), (word, variables[:-1] + (10 ** 12,)),
                (word, variables[:-1] + (None,)), (word, variables[:-1] + ((0,),)), (word, (0,) * len(variables)),
                (word, (0, 0, 1, 1)), (word, (0, 1, 0, 1)), (word, (0, 0, 1, 2)), (word, (0, 1, 1, 2, 3)),
            ]:
                self.assertIs(shows_knot(scheme, thing), False, thing)
                self.assertFalse(is_knot(scheme, thing))
        self.assertIs(shows_knot(TRIANGLE, ("ring", (0, 1, 2))), False)
        self.assertIs(shows_knot(TRIANGLE, ("shell", (0, 2, 1))), False)
        self.assertIs(shows_knot(SQUARE, ("shell", (0, 1, 2, 3))), False)
        self.assertIs(shows_knot(TETRAHEDRON, ("ring", (0, 1, 2, 3))), False)

    def test_where_there_is_none(self):
        for scheme in [CHAIN, (1, ((0,),)), (3, ((0, 1, 2),)), (5, ((0,), (1,), (2,), (3,), (4,)))]:
            for thing in [None, ("shell", (0, 1, 2)), ("ring", (0, 1, 2, 3)), (), ("shell", ()), ("shell", None)]:
                self.assertIs(shows_knot(scheme, thing), False)

    def test_equal_variables(self):
        for scheme in [TRIANGLE, SQUARE, PENTAGON, (4, ((0,), (1,), (2, 3)))]:
            for word in ("shell", "ring"):
                for row in [(a, b, c, d) for a in range(4) for b in range(4) for c in range(4) for d in range(4)]:
                    self.check(scheme, (word, row))
                    self.check(scheme, (word, row[:3]))
                    self.check(scheme, (word, row + row[:1]))

    def test_any_value(self):
        for scheme in [TRIANGLE, TETRAHEDRON, SQUARE, PENTAGON, CHAIN]:
            for thing in strange_values():
                for shown in [thing, ("shell", thing), ("ring", thing), (thing, (0, 1, 2)), (thing, (0, 1, 2, 3))]:
                    self.check(scheme, shown)
                self.check(scheme, ("shell", (0, 1, thing)))
                self.check(scheme, ("ring", (0, 1, 2, thing)))

    def test_deep_values(self):
        for core in (0, ("shell", (0, 1, 2)), None):
            self.assertIs(shows_knot(TRIANGLE, nested(19, core)), False)
            self.assertIs(shows_knot(TRIANGLE, ("shell", nested(18, core))), False)

    def test_changed_knots(self):
        said = []
        for scheme in [TRIANGLE, TETRAHEDRON, SQUARE, PENTAGON, CHAIN, (5, PENTAGON[1][:4] + ((0, 1, 4),))]:
            for other in [TRIANGLE, TETRAHEDRON, SQUARE, PENTAGON]:
                for thing in variants(knot(other)):
                    said.append(self.check(scheme, thing))
        self.assertIn(True, said)
        self.assertIn(False, said)


class Rules(unittest.TestCase):

    def test_no_scheme(self):
        for thing in [*NO_SCHEMES, *strange_values(), trap(TRIANGLE)]:
            self.assertIs(is_scheme(thing), False)
            for function in (knot, trap):
                with self.assertRaises(NoScheme) as caught:
                    function(thing)
                self.assertIs(type(caught.exception), NoScheme)
            for shown in [("shell", (0, 1, 2)), None, thing]:
                with self.assertRaises(NoScheme):
                    shows_knot(thing, shown)

    def test_again_and_unchanged(self):
        for scheme in [TRIANGLE, TETRAHEDRON, SQUARE, PENTAGON, CHAIN]:
            kept = repr(scheme)
            self.assertEqual(knot(scheme), knot(scheme))
            self.assertEqual(trap(scheme), trap(scheme))
            shown = [knot(scheme), ["shell", [0, 1, 2]], {0: [1]}]
            before = repr(shown)
            for thing in [shown, *shown]:
                self.assertEqual(shows_knot(scheme, thing), shows_knot(scheme, thing))
            self.assertEqual((repr(scheme), repr(shown)), (kept, before))
        wrong = [3, [[0, 1]]]
        with self.assertRaises(NoScheme):
            trap(wrong)
        self.assertEqual(wrong, [3, [[0, 1]]])

    def test_kinds(self):
        for scheme in [TRIANGLE, TETRAHEDRON, SQUARE, PENTAGON]:
            found = knot(scheme)
            self.assertIs(type(found), tuple)
            word, variables = found
            self.assertTrue(type(word) is str and type(variables) is tuple and all(map(is_int, variables)))


class WhatHolds(unittest.TestCase):

    def test_agreeing_pieces_of_a_scheme_with_steps_have_a_whole(self):
        source = chance(43)
        tried = 0
        for _ in range(400):
            many, chosen = random_scheme(source)
            report = report_of(many, random_counts(source, many), *chosen)
            report = Report(many, *[twisted(source, piece) for piece in report.pieces])
            if steps(report.scheme) is not None and clash(report) is None:
                tried += 1
                word, table = whole(report)
                self.assertEqual(word, "whole")
                self.assertTrue(is_whole(report, table))
                self.assertIs(shows_whole(report, table), True)
        self.assertGreater(tried, 100)

    def test_side_by_side(self):
        two = Report(2, Piece((0,), (1, 1)), Piece((1,), (2, 0)))
        three = trap(TRIANGLE)
        for left, right, word in [(two, two, "whole"), (two, three, "bet"), (three, two, "bet")]:
            both = left | right
            self.assertEqual(whole(both)[0], word)
            self.assertIs(steps(both.scheme) is None, word == "bet")
            self.assertIs(knot(both.scheme) is None, word == "whole")
        self.assertEqual(knot((two | three).scheme), ("shell", (2, 3, 4)))

    def test_schemes_side_by_side(self):
        source = chance(44)
        for _ in range(100):
            left = (2, tuple(source.choice(groups(2)) for _ in range(2)))
            right = (3, tuple(source.choice(groups(3)) for _ in range(3)))
            both = (5, left[1] + tuple(tuple(variable + 2 for variable in group) for group in right[1]))
            self.assertIs(steps(both) is None, steps(left) is None or steps(right) is None)
            self.assertIs(knot(both) is None, knot(left) is None and knot(right) is None)


if __name__ == "__main__":
    unittest.main()
