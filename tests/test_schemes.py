"""Schemes and their steps: point [40], and the second half of the example in point [1]."""

import unittest

from piecetables.errors import NoScheme
from piecetables.knots import knot
from piecetables.pieces import Piece
from piecetables.reports import Report
from piecetables.schemes import is_scheme, shows_steps, steps
from tests.helpers import (
    UNLIKE, all_steps, chance, is_int, is_step, nested, random_scheme, report_of, scheme_sets, schemes,
    strange_values, variants,
)

CHAIN = (4, ((0, 1), (1, 2), (2, 3)))
TRIANGLE = (3, ((0, 1), (1, 2), (0, 2)))

SCHEMES = (
    (1, ((0,),)), (1, ((0,),) * 5), (5, ((4,),)), (5, ((0, 1, 2), (2, 3, 4))), (5, ((0,), (1,), (2,), (3,), (4,))),
    (3, ((0, 1, 2),)), (5, ((2, 3, 4),) * 5), (2, ((0, 1), (0, 1))), CHAIN, TRIANGLE,
)

NO_SCHEMES = (
    None, True, 1, "1", "variables 1", (), (1,), (1, ((0,),), 1), [1, ((0,),)], {0: 1, 1: ((0,),)},
    # The number of variables.
    (0, ((0,),)), (6, ((0,),)), (-1, ((0,),)), (True, ((0,),)), (None, ((0,),)), ("1", ((0,),)), ((1,), ((0,),)),
    (0, ()), ([2], ((0,),)), (10 ** 12, ((0,),)),
    # The groups.
    (1, ()), (1, ((0,),) * 6), (1, [(0,)]), (1, {0: (0,)}), (1, (0,)), (1, 0), (1, None), (1, "0"), (1, True),
    (1, ((0,), None)), (1, ((0,), 0)), (1, ((0,), [0])), (1, ([0],)), (1, ({0: 0},)), (1, ("0",)), (1, (((0,),),)),
    # A group.
    (1, ((),)), (1, ((1,),)), (2, ((0,), (2,))), (1, ((-1,),)), (2, ((1, 0),)), (2, ((0, 0),)), (5, ((0, 1, 2, 3),)),
    (3, ((0, 2, 1),)), (5, ((0, 5),)), (1, ((False,),)), (2, ((0, True),)), (2, ((0, None),)), (2, ((0, "1"),)),
    (2, ((0, (1,)),)), (5, ((0, 1, 2, 3, 4),)), (5, ((0, 1), (3, 2))), (5, ((0, 1, 1),)), (5, ((0, 10 ** 12),)),
)

NO_STEPS = (
    None, True, 0, "steps", [], {}, ((0, 1),), ((1, 2),), ((0, 1), (1, 2), (2, 3)), [(0, 1), (1, 2)],
    ([0, 1], (1, 2)), ((0, 1), [1, 2]), ((0, True), (1, 2)), ((False, 1), (1, 2)), ((0, 1), (True, 2)), (0, 1, 1, 2),
    ((0, 1, 1), (1, 2)), ((0,), (1, 2)), ((0, 1), ()), ((0, 1), None), ((0, 1), 1), (((0, 1), (1, 2)),), ("01", "12"),
    (("0", "1"), (1, 2)), ({0: 0, 1: 1}, (1, 2)), {0: (0, 1), 1: (1, 2)}, ((0, 1), (0, 2)), ((0, 1), (2, 0)),
    ((0, 1), (1, 0)), ((0, 1), (1, 1)), ((0, 0), (1, 2)), ((1, 0), (0, 2)), ((1, 2), (0, 2)), ((0, 2), (1, 2)),
    ((0, 1), (1, 3)), ((0, 1), (3, 1)), ((0, 1), (-1, 1)), ((0, 1), (1, -1)), ((0, 1), (0, 1)), ((0, None), (1, 2)),
    (((0, 1), (1, 2)), None), ((0, 10 ** 12), (1, 2)), ((0, 1),) * 4000,
)


def are_steps(chosen, thing):
    """Tell whether a value is steps of groups."""
    if type(thing) is not tuple or len(thing) != len(chosen) - 1:
        return False
    left = set(range(len(chosen)))
    for step in thing:
        if type(step) is not tuple or len(step) != 2 or not is_int(step[0]) or not is_int(step[1]):
            return False
        if not is_step(chosen, left, *step):
            return False
        left.remove(step[0])
    return True


class IsScheme(unittest.TestCase):

    def test_schemes(self):
        for scheme in SCHEMES:
            self.assertIs(is_scheme(scheme), True)
        for many in (1, 2, 3):
            for scheme in schemes(many, 2):
                self.assertIs(is_scheme(scheme), True)

    def test_schemes_of_reports(self):
        source = chance(31)
        for _ in range(50):
            many, chosen = random_scheme(source)
            scheme = report_of(many, [1] * 2 ** many, *chosen).scheme
            self.assertEqual(scheme, (many, chosen))
            self.assertIs(is_scheme(scheme), True)

    def test_what_is_none(self):
        for thing in NO_SCHEMES:
            self.assertIs(is_scheme(thing), False, thing)

    def test_any_value(self):
        for thing in strange_values():
            self.assertIs(is_scheme(thing), False)
            self.assertIs(is_scheme((2, thing)), thing == ((0, 1),))
            self.assertIs(is_scheme((thing, ((0,),))), is_int(thing) and thing in (1, 2, 5))
            self.assertIs(
                is_scheme((2, ((0,), thing))), thing in [(0,), (1,), (0, 1)] and all(map(is_int, thing)), thing)

    def test_deep_values(self):
        for core in (1, CHAIN, None):
            self.assertIs(is_scheme(nested(19, core)), False)
            self.assertIs(is_scheme((2, nested(18, core))), False)

    def test_objects_of_the_package(self):
        report = Report(2, Piece((0, 1), UNLIKE))
        for thing in [report, (2, report.pieces), (2, (report.pieces[0],)), (report, ((0,),))]:
            self.assertIs(is_scheme(thing), False)
        self.assertIs(is_scheme(report.scheme), True)

    def test_changed_schemes(self):
        for thing in variants((2, ((0, 1), (1,)))):
            if is_scheme(thing):
                many, chosen = thing
                self.assertTrue(is_int(many) and 1 <= many <= 5 and type(chosen) is tuple and 1 <= len(chosen) <= 5)
                for group in chosen:
                    self.assertTrue(type(group) is tuple and 1 <= len(group) <= 3 and all(map(is_int, group)))
                    self.assertTrue(list(group) == sorted(set(group)) and 0 <= group[0] and group[-1] < many)


class Steps(unittest.TestCase):

    def test_second_half_of_the_session(self):
        unlike = (0, 1, 1, 0)
        report = Report(3, Piece((0, 1), unlike), Piece((1, 2), unlike), Piece((0, 2), unlike))
        self.assertEqual((steps(CHAIN), steps(report.scheme)), (((0, 1), (1, 2)), None))

    def test_by_hand(self):
        for scheme, wanted in [
            ((1, ((0,),)), ()), ((5, ((0, 1, 2),)), ()), ((1, ((0,), (0,))), ((0, 1),)),
            ((1, ((0,),) * 5), ((0, 1), (1, 2), (2, 3), (3, 4))),
            ((5, ((2, 3, 4),) * 5), ((0, 1), (1, 2), (2, 3), (3, 4))),
            # No common variables: any other group will do.
            ((2, ((0,), (1,))), ((0, 1),)), ((5, ((0, 1, 2), (3, 4))), ((0, 1),)),
            ((5, ((0,), (1,), (2,), (3,), (4,))), ((0, 1), (1, 2), (2, 3), (3, 4))),
            # The one in the middle has variables of both others.
            ((3, ((0, 1), (0,), (1,))), ((1, 0), (0, 2))), ((3, ((0, 1), (1, 2), (2,))), ((0, 1), (1, 2))),
            ((5, ((1, 2, 3), (0, 1), (3, 4))), ((1, 0), (0, 2))), ((3, ((0, 1), (0, 2))), ((0, 1),)),
            ((4, ((1, 2), (0, 1), (2, 3))), ((1, 0), (0, 2))),
            ((4, ((0, 1), (0, 2), (1, 2), (0, 1, 2))), ((0, 3), (1, 3), (2, 3))),
            ((4, ((0, 1, 2), (0, 1), (0, 2), (1, 2))), ((1, 0), (2, 0), (0, 3))),
            ((5, ((0, 1, 2), (1, 2, 3), (2, 3, 4))), ((0, 1), (1, 2))),
            # What only the group itself has does not count, nor what only groups that are taken away have.
            ((5, ((0, 1, 4), (1, 2), (2, 3), (3,), (0,))), ((3, 2), (2, 1), (1, 0), (0, 4))),
            (TRIANGLE, None), ((4, ((0, 1), (1, 2), (2, 3), (0, 3))), None),
            ((5, ((0, 1), (1, 2), (2, 3), (3, 4), (0, 4))), None), ((5, ((0, 1), (1, 2), (0, 2), (3, 4))), None),
            ((4, ((0, 1, 2), (0, 1, 3), (0, 2, 3))), None), ((4, ((0, 1, 2), (0, 1, 3), (0, 2, 3), (1, 2, 3))), None),
            ((3, ((0, 1), (1, 2), (0, 2), (0, 1), (2,))), None),
        ]:
            if wanted is not None:
                self.assertTrue(are_steps(scheme[1], wanted), scheme)
            self.assertEqual(steps(scheme), wanted, scheme)

    def check(self, scheme):
        """Check that the first of all steps are found, exactly if there are any."""
        found = steps(scheme)
        self.assertEqual(found, next(all_steps(scheme[1]), None), scheme)
        if found is not None:
            self.assertIs(shows_steps(scheme, found), True)
        return found

    def test_all_of_a_few_variables_and_groups(self):
        for many, most in [(1, 5), (2, 4), (3, 3), (4, 2)]:
            for scheme in schemes(many, most):
                self.check(scheme)

    def test_all_sets_of_groups(self):
        for many, most in [(3, 4), (4, 3)]:
            said = [self.check(scheme) is None for scheme in scheme_sets(many, most)]
            self.assertIn(True, said)
            self.assertIn(False, said)

    def test_random_ones(self):
        source = chance(32)
        said = [self.check(random_scheme(source)) is None for _ in range(1500)]
        self.assertGreater(said.count(True), 50)
        self.assertGreater(said.count(False), 50)

    def test_or_else_a_knot(self):
        source = chance(33)
        for scheme in [*schemes(3, 3), *[random_scheme(source) for _ in range(500)]]:
            self.assertIs(steps(scheme) is None, knot(scheme) is not None, scheme)


class ShowsSteps(unittest.TestCase):

    def test_other_steps(self):
        for scheme in [CHAIN, (1, ((0,),)), (3, ((0, 1), (0,), (1,))), (2, ((0,), (1,))), (5, ((0, 1), (2, 3), (4,)))]:
            for thing in all_steps(scheme[1]):
                self.assertIs(shows_steps(scheme, thing), True)
        for thing in [((0, 1), (1, 2)), ((0, 1), (2, 1)), ((2, 1), (0, 1)), ((2, 1), (1, 0))]:
            self.assertIs(shows_steps(CHAIN, thing), True)

    def test_all_orders(self):
        for scheme in [CHAIN, TRIANGLE, (3, ((0, 1), (1,), (1, 2))), (2, ((0,), (1,), (0, 1))), (1, ((0,),) * 3)]:
            pairs = [(one, other) for one in range(-1, 4) for other in range(-1, 4)]
            for first in pairs:
                for second in pairs:
                    thing = (first, second)
                    self.assertIs(shows_steps(scheme, thing), are_steps(scheme[1], thing), (scheme, thing))

    def test_what_is_none(self):
        for thing in NO_STEPS:
            self.assertIs(shows_steps(CHAIN, thing), False, thing)
            self.assertIs(shows_steps(TRIANGLE, thing), False, thing)
        self.assertIs(shows_steps(CHAIN, ()), False)

    def test_a_single_group(self):
        for scheme in [(1, ((0,),)), (5, ((2, 3, 4),))]:
            self.assertIs(shows_steps(scheme, ()), True)
            for thing in [None, [], {}, "", 0, False, ((0, 0),), ((0, 1),), ((),), (None,)]:
                self.assertIs(shows_steps(scheme, thing), False)

    def test_any_value(self):
        for scheme in SCHEMES:
            for thing in strange_values():
                self.assertIs(shows_steps(scheme, thing), are_steps(scheme[1], thing))
                self.assertIs(shows_steps(scheme, ((0, 1), thing)), are_steps(scheme[1], ((0, 1), thing)))
                self.assertIs(shows_steps(scheme, (thing,)), are_steps(scheme[1], (thing,)))
                self.assertIs(shows_steps(scheme, ((0, thing),)), are_steps(scheme[1], ((0, thing),)))

    def test_deep_values(self):
        for core in (0, (0, 1), None):
            self.assertIs(shows_steps(CHAIN, nested(19, core)), False)
            self.assertIs(shows_steps((1, ((0,), (0,))), nested(18, core)), False)

    def test_changed_steps(self):
        source = chance(34)
        said = []
        for scheme in [CHAIN, (1, ((0,),)), (2, ((0,), (1,))), *[random_scheme(source) for _ in range(20)]]:
            found = steps(scheme)
            if found is not None:
                for thing in variants(found):
                    said.append(shows_steps(scheme, thing))
                    self.assertIs(said[-1], are_steps(scheme[1], thing), (scheme, thing))
        self.assertIn(True, said)
        self.assertIn(False, said)

    def test_parts_of_the_steps_of_another_scheme(self):
        source = chance(35)
        for _ in range(300):
            scheme, other = random_scheme(source), random_scheme(source)
            for thing in [steps(other), next(all_steps(other[1]), None)]:
                self.assertIs(shows_steps(scheme, thing), are_steps(scheme[1], thing), (scheme, thing))


class Rules(unittest.TestCase):

    def test_no_scheme(self):
        for thing in [*NO_SCHEMES, *strange_values()]:
            with self.assertRaises(NoScheme) as caught:
                steps(thing)
            self.assertIs(type(caught.exception), NoScheme)
            for shown in [(), ((0, 1),), None, thing]:
                with self.assertRaises(NoScheme):
                    shows_steps(thing, shown)

    def test_again_and_unchanged(self):
        for scheme in [CHAIN, TRIANGLE]:
            kept = repr(scheme)
            self.assertEqual(steps(scheme), steps(scheme))
            shown = [steps(CHAIN), [(0, 1), (1, 2)], {0: [1]}]
            before = repr(shown)
            for thing in [shown, *shown]:
                self.assertEqual(shows_steps(scheme, thing), shows_steps(scheme, thing))
                self.assertIs(is_scheme(thing), False)
            self.assertEqual((repr(scheme), repr(shown)), (kept, before))
        wrong = [1, [[0]]]
        with self.assertRaises(NoScheme):
            steps(wrong)
        self.assertEqual(wrong, [1, [[0]]])

    def test_kinds(self):
        found = steps(CHAIN)
        self.assertIs(type(found), tuple)
        for step in found:
            self.assertTrue(type(step) is tuple and all(map(is_int, step)))


if __name__ == "__main__":
    unittest.main()
