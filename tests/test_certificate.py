"""Points 25 to 28: the premises of claims, and which certificates are accepted."""

import unittest
from random import Random

from floodmark.certificate import (conditions_of, goal_premises, is_certificate, jump_premises, start_premises,
                                   wait_premises)
from floodmark.maker import make_certificate
from floodmark.poly import polyhedron
from floodmark.search import search
from tests.checking import ProgramTest
from tests.examples import (CLOCK, NO_VARIABLES, STILL, TANK, VALID, random_goals, random_region,
                            random_started_system, same)
from tests.proofs import (LAMP, LAMP_GOALS, LAMP_PROOF, RAMP, RAMP_GOALS, changed, slow_accepts, slow_conditions,
                          slow_goal_premises, slow_jump_premises, slow_start_premises, slow_wait_premises)
from tests.searches import NO_POINT, all_nodes, at, interval
from tests.shapes import box, random_conditions

EVERYWHERE = interval(None, None)


class PremisesTest(ProgramTest):

    def test_conditions_of_a_polyhedron(self):
        for region, expected in [
            (polyhedron(2, box([(3, 5), (0, None)])), [[-3, 1, 0], [0, 0, 1], [5, -1, 0]]),
            (at(7), [[-7, 1], [7, -1]]),
            (polyhedron(3, [[0, 0, 0, 1]], [[0, 1, -1, 0]]), [[0, 0, 0, 1], [0, 1, -1, 0], [0, -1, 1, 0]]),
            (polyhedron(3, [[1, 0, 0, 1]], [[-2, 1, 0, 0], [3, 0, 2, 0]]),
             [[1, 0, 0, 1], [-2, 1, 0, 0], [2, -1, 0, 0], [3, 0, 2, 0], [-3, 0, -2, 0]]),
            (EVERYWHERE, []),
            (NO_POINT, []),
        ]:
            with self.subTest(region=region):
                self.assertEqual(self.call_for_integers(conditions_of, region), expected)

    def test_starts(self):
        self.assertEqual(self.call_for_integers(start_premises, TANK, 0), [[0, 1], [1, -1], [10, -1]])
        self.assertEqual(self.call(start_premises, RAMP, 0), [
            [-1, 1, 0], [2, -1, 0], [0, 0, 1], [0, 0, -1], [4, -1, 0], [6, -2, -1]])
        self.assertEqual(self.call(start_premises, RAMP, 1), [[-3, 0, 1], [-3, 1, 0], [3, -1, 0]])
        self.assertEqual(self.call(start_premises, NO_VARIABLES, 0), [[3]])
        self.assertEqual(self.call(start_premises, NO_VARIABLES, 1), [[-1]])
        system = (1, 0, [([], [[1, 0]])], [], [(0, EVERYWHERE)])
        self.assertEqual(self.call(start_premises, system, 0), [])

    def test_waits(self):
        self.assertEqual(self.call_for_integers(wait_premises, TANK, 0, [[0, 1], [9, -1]]), [
            [0, 1, 0, 0], [9, -1, 0, 0], [10, -1, 0, 0], [0, 0, 1, 0], [0, 0, 0, 1], [10, -1, -1, -1]])
        self.assertEqual(self.call(wait_premises, TANK, 1, []), [[-2, 1, 0], [0, 0, 1], [-2, 1, -1]])
        self.assertEqual(self.call(wait_premises, RAMP, 0, [[1, 2, 3]]), [
            [1, 2, 3, 0, 0, 0],
            [4, -1, 0, 0, 0, 0], [6, -2, -1, 0, 0, 0],
            [0, 0, 0, 1, 0, 0], [0, 0, 0, 0, 1, 0], [0, 0, 0, 0, 0, 1],
            # The rates are the directions [0, 1, -2] and [0, 1, 0]; the third one is 0, and the
            # last one has the direction of the first one.
            [4, -1, 0, -1, -1, -1], [6, -2, -1, 0, -2, 0]])

    def test_waits_without_directions(self):
        self.assertEqual(self.call(wait_premises, CLOCK, 1, [[1, 2, 3, 4]]), [[1, 2, 3, 4]])
        self.assertEqual(self.call(wait_premises, CLOCK, 1, []), [])
        self.assertEqual(self.call(wait_premises, RAMP, 2, [[5, 5, 5]]), [[5, 5, 5], [-1, 0, 1], [-1, 0, 1]])
        self.assertEqual(self.call(wait_premises, STILL, 0, [[4], [5]]), [[4], [5]])
        self.assertEqual(self.call(wait_premises, NO_VARIABLES, 0, []), [[3], [3]])

    def test_equal_directions(self):
        system = (1, 0, [([[7, -1]], [[1, 2], [3, 2], [1, 0], [2, 9], [1, -1]])], [], [])
        self.assertEqual(self.call(wait_premises, system, 0, []), [
            [7, -1, 0, 0, 0, 0], [0, 0, 1, 0, 0, 0], [0, 0, 0, 1, 0, 0], [0, 0, 0, 0, 1, 0], [0, 0, 0, 0, 0, 1],
            [7, -1, -1, -1, -1, 1]])

    def test_jumps(self):
        self.assertEqual(self.call_for_integers(jump_premises, TANK, 0, [[5, 1]]), [
            [5, 1, 0], [10, -1, 0], [-8, 1, 0], [0, -1, 1], [0, 1, -1], [-2, 0, 1]])
        self.assertEqual(self.call(jump_premises, RAMP, 0, [[1, 2, 3], [4, 5, 6]]), [
            [1, 2, 3, 0, 0], [4, 5, 6, 0, 0], [4, -1, 0, 0, 0], [6, -2, -1, 0, 0], [-5, 1, 0, 0, 0], [-1, 0, 0, 0, 1]])
        self.assertEqual(self.call(jump_premises, RAMP, 1, []), same(2))
        self.assertEqual(self.call(jump_premises, NO_VARIABLES, 2, [[7]]), [[7], [3], [-1]])

    def test_goals(self):
        self.assertEqual(self.call_for_integers(goal_premises, TANK, (0, interval(3, 5)), [[5, 1]]), [
            [5, 1], [10, -1], [-3, 1], [5, -1]])
        self.assertEqual(self.call(goal_premises, TANK, (1, at(4)), []), [[-2, 1], [-4, 1], [4, -1]])
        self.assertEqual(self.call(goal_premises, TANK, (2, EVERYWHERE), []), [])
        self.assertEqual(self.call(goal_premises, TANK, (2, EVERYWHERE), [[1, 2], [3, 4]]), [[1, 2], [3, 4]])

    def test_equal_lists_are_returned_as_two(self):
        row = [4, -1]
        system = (1, 0, [([row, row], [[1, 1]])], [(0, 0, [[1, 1, 1]] * 2)], [(0, (1, [row], [row]))])
        goal = (0, (1, [], [row, row]))
        for function, rest in [(start_premises, (0,)), (wait_premises, (0, [row, row])),
                               (jump_premises, (0, [row, row])), (goal_premises, (goal, [row, row]))]:
            with self.subTest(function=function):
                self.call(function, system, *rest)

    def test_as_defined(self):
        rng = Random(251)
        for _ in range(150):
            system = random_started_system(rng)
            n, _, locations, jumps, starts = system
            piece = random_conditions(rng, n, rng.randint(0, 3))
            goal = (rng.randrange(len(locations)), random_region(rng, n))
            for start in range(len(starts)):
                self.assertEqual(self.call(start_premises, system, start), slow_start_premises(system, start))
            for place in range(len(locations)):
                expected = slow_wait_premises(system, place, piece)
                self.assertEqual(self.call(wait_premises, system, place, piece), expected)
            for jump in range(len(jumps)):
                self.assertEqual(self.call(jump_premises, system, jump, piece), slow_jump_premises(system, jump, piece))
            self.assertEqual(self.call(goal_premises, system, goal, piece), slow_goal_premises(system, goal, piece))
            self.assertEqual(self.call(conditions_of, goal[1]), slow_conditions(goal[1]))


class CertificateTest(ProgramTest):

    def check(self, system, goals, certificate, expected):
        with self.subTest(certificate=certificate):
            self.assertIs(self.call(is_certificate, system, goals, certificate), expected)

    def lamp(self, expected, **parts):
        """Check the proof of LAMP with some parts replaced."""
        names = ["pieces", "starts", "waits", "jumps", "goals"]
        certificate = tuple(parts.get(name, part) for name, part in zip(names, LAMP_PROOF))
        self.check(LAMP, LAMP_GOALS, certificate, expected)

    def test_an_example(self):
        self.lamp(True)
        self.assertTrue(slow_accepts(LAMP, LAMP_GOALS, LAMP_PROOF))

    def test_other_goals(self):
        for goals, expected in [([(1, interval(None, 6))], True), ([(1, interval(None, 8))], False),
                                ([(1, interval(4, 7))], False), ([], False), (LAMP_GOALS * 2, False)]:
            with self.subTest(goals=goals):
                self.check(LAMP, goals, LAMP_PROOF, expected)
        self.check(LAMP, [], (*LAMP_PROOF[:4], []), True)
        self.check(LAMP, LAMP_GOALS * 2, (*LAMP_PROOF[:4], LAMP_PROOF[4] * 2), True)
        self.check(LAMP, [(1, interval(4, 7))], (*LAMP_PROOF[:4], [[(None, [(1, [1, 0, 1])])]]), True)

    def test_other_systems(self):
        n, fixed, locations, jumps, starts = LAMP
        lower = [(0, 1, [[-7, 1, 0], *same(1)])]
        self.check((n, fixed, locations, lower, starts), LAMP_GOALS, LAMP_PROOF, False)
        falling = [locations[0], ([], [[1, -1]])]
        self.check((n, fixed, falling, jumps, starts), LAMP_GOALS, LAMP_PROOF, False)
        # With the direction 1, the claim has a premise more; with a start at location 1, it has a claim more.
        rising = [locations[0], ([], [[1, 1]])]
        self.check((n, fixed, rising, jumps, starts), LAMP_GOALS, LAMP_PROOF, False)
        waits = [[(0, [])], [(0, [(1, [1, 1])])]]
        self.check((n, fixed, rising, jumps, starts), LAMP_GOALS, (*LAMP_PROOF[:2], waits, *LAMP_PROOF[3:]), True)
        more = [*starts, (1, interval(9, 12))]
        self.check((n, fixed, locations, jumps, more), LAMP_GOALS, LAMP_PROOF, False)
        for claim, expected in [((0, [(1, [1, 0])]), True), ((0, [(1, [0, 1])]), False), ((0, []), False)]:
            claims = [*LAMP_PROOF[1], claim]
            certificate = (LAMP_PROOF[0], claims, *LAMP_PROOF[2:])
            self.check((n, fixed, locations, jumps, more), LAMP_GOALS, certificate, expected)

    def test_pieces(self):
        self.lamp(False, pieces=[[[]], [[[-9, 1]]]])
        self.lamp(False, pieces=[[[]], [[[-7, 1]]]])
        self.lamp(False, pieces=[[[]], [[]]])
        self.lamp(False, pieces=[[[]], [[[-8, 1], [-8, 1]]]])
        self.lamp(False, pieces=[[], [[[-8, 1]]]])
        self.lamp(False, pieces=[[[]], [[[-8, 1]], []]])
        self.lamp(False, pieces=[[[[0, 1]]], [[[-8, 1]]]])
        for condition in ([], [-8], [-8, 1, 0], [-8, 1, 0, 0]):
            self.lamp(False, pieces=[[[]], [[condition]]])
        self.lamp(False, pieces=[[[]]])
        self.lamp(False, pieces=[[[]], [[[-8, 1]]], []])
        self.lamp(False, pieces=[])

    def test_starts(self):
        self.lamp(False, starts=[])
        self.lamp(False, starts=[(0, []), (0, [])])
        for index in (1, -1, 5, None):
            self.lamp(False, starts=[(index, [])])
        self.lamp(False, starts=[(0, [(1, [0, 0, 0])])])
        self.lamp(False, starts=[(None, [(1, [1, 1, 1])])])

    def test_waits(self):
        self.lamp(False, waits=[[(0, [])]])
        self.lamp(False, waits=[[(0, [])], []])
        self.lamp(False, waits=[[(0, [])], [(0, [(1, [1])])], []])
        self.lamp(False, waits=[[(0, [])], [(0, [(1, [1])]), (0, [(1, [1])])]])
        for index in (1, -1, None):
            self.lamp(False, waits=[[(index, [])], [(0, [(1, [1])])]])
            self.lamp(False, waits=[[(0, [])], [(index, [(1, [1])])]])
        for multipliers in ([], [(1, [1]), (1, [1])], [(1, [2])], [(2, [1])], [(0, [0])], [(1, [1, 0])], [(1, [])]):
            self.lamp(False, waits=[[(0, [])], [(0, multipliers)]])
        self.lamp(True, waits=[[(0, [])], [(0, [(2, [2])])]])

    def test_jumps(self):
        self.lamp(False, jumps=[])
        self.lamp(False, jumps=[[]])
        self.lamp(False, jumps=[[(0, [(1, [0, 1, 1, 0])])], []])
        self.lamp(False, jumps=[[(0, [(1, [0, 1, 1, 0])]), (0, [(1, [0, 1, 1, 0])])]])
        for index in (1, -1, None):
            self.lamp(False, jumps=[[(index, [(1, [0, 1, 1, 0])])]])
        for multipliers in ([], [(1, [0, 1, 0, 0])], [(1, [0, 1, 1, 1])], [(1, [0, 1, 1])], [(1, [0, 1, 1, 0, 0])],
                            [(0, [0, 0, 0, 0])], [(-1, [0, -1, -1, 0])], [(1, [0, 1, 1, 0])] * 2):
            self.lamp(False, jumps=[[(0, multipliers)]])
        self.lamp(True, jumps=[[(0, [(1, [0, 1, 2, 1])])]])
        self.lamp(True, jumps=[[(0, [(3, [0, 3, 3, 0])])]])
        self.lamp(False, jumps=[[(0, [(1, [-1, 1, 1, 0])])]])

    def test_goals(self):
        self.lamp(False, goals=[])
        self.lamp(False, goals=[[]])
        self.lamp(False, goals=[[(None, [(1, [1, 1])])], []])
        self.lamp(False, goals=[[(None, [(1, [1, 1])])] * 2])
        self.lamp(False, goals=[[(0, [(1, [1, 1])])]])
        self.lamp(False, goals=[[(-1, [(1, [1, 1])])]])
        for multipliers in ([], [(1, [1, 1])] * 2, [(2, [1, 1])], [(1, [1, 0])], [(1, [2, 1])], [(1, [1, 1, 0])],
                            [(0, [0, 0])], [(-1, [-1, -1])]):
            self.lamp(False, goals=[[(None, multipliers)]])
        self.lamp(True, goals=[[(None, [(2, [2, 2])])]])

    def test_claims_of_what_is_not_possible(self):
        # No start is within the invariant, and the jump has a guard that holds nowhere.
        system = (1, 0, [([[5, -1]], [[1, 1]])], [(0, 0, [[-6, 1, 0]])], [(0, interval(7, 9))])
        goals = [(0, EVERYWHERE)]
        self.check(system, goals, ([[]], [(None, [(2, [1, 0, 1])])], [[]], [[]], [[]]), True)
        self.check(system, goals, ([[]], [(None, [(1, [1, 0, 1])])], [[]], [[]], [[]]), True)
        self.check(system, goals, ([[]], [(None, [(3, [1, 0, 1])])], [[]], [[]], [[]]), False)
        self.check(system, goals, ([[]], [(None, [])], [[]], [[]], [[]]), False)
        self.check(system, goals, ([[]], [(None, [(1, [1, 0, 1])] * 2)], [[]], [[]], [[]]), False)
        self.check(system, goals, ([[]], [(0, [])], [[]], [[]], [[]]), False)
        system = (*system[:4], [(0, interval(0, 4))])
        goals = [(0, interval(None, -1))]
        rest = ([[(None, [(1, [1, 0, 1])])]],)
        waits = [[(0, [(1, [1, 0, 1, 0])])]]
        for claim, expected in [((None, [(1, [0, 1, 1, 0])]), True), ((None, [(1, [1, 1, 1, 0])]), False),
                                ((0, [(1, [0, 0, 0, 0])]), False), ((0, [(1, [0, 1, 1, 0])]), False)]:
            self.check(system, goals, ([[[[0, 1]]]], [(0, [(1, [1, 0, 0])])], waits, [[claim]], *rest), expected)

    def test_the_index_of_a_wait_is_that_of_the_piece(self):
        system = (1, 0, [([], [[1, 0]])], [], [])
        pieces = [[[[0, 1]], [[0, 1]]]]
        for first, second in [(0, 1), (0, 0), (1, 0), (1, 1), (None, 1), (0, 2), (0, None)]:
            waits = [[(first, [(1, [1])]), (second, [(1, [1])])]]
            self.check(system, [], (pieces, [], waits, [], []), (first, second) == (0, 1))
        # Not even what cannot be waited for has None as its index.
        pieces = [[[[-1, 0]]]]
        self.check(system, [], (pieces, [], [[(0, [(1, [1])])]], [], []), True)
        self.check(system, [], (pieces, [], [[(None, [(1, [1])])]], [], []), False)

    def test_any_piece_of_the_target_will_do(self):
        system = (1, 0, [([], [[1, 0]])], [(0, 0, same(1))], [(0, interval(3, 4))])
        pieces = [[[[0, 1]], [[-2, 1]]]]
        waits = [[(0, [(1, [1])]), (1, [(1, [1])])]]
        for start in (0, 1, 2, -1):
            for first in (0, 1, 2, -2):
                jumps = [[(first, [(1, [1, 1, 0])]), (1, [(1, [1, 1, 0])])]]
                expected = start in (0, 1) and first == 0
                self.check(system, [], (pieces, [(start, [(1, [1, 0])])], waits, jumps, []), expected)

    def test_no_pieces_no_starts_no_jumps(self):
        self.check(STILL, [], ([[]], [], [[]], [], []), True)
        self.check(STILL, [(0, NO_POINT)], ([[]], [], [[]], [], [[]]), True)
        self.check(STILL, [(0, NO_POINT)], ([[]], [], [[]], [], []), False)
        self.check(STILL, [], ([], [], [], [], []), False)
        self.check(STILL, [], ([[]], [], [], [], []), False)
        self.check(STILL, [], ([[], []], [], [[], []], [], []), False)
        self.check(STILL, [], ([[]], [(0, [])], [[]], [], []), False)
        self.check(STILL, [], ([[]], [], [[]], [[]], []), False)
        self.check(STILL, [], ([[[]]], [], [[(0, [])]], [], []), True)
        # A piece without conditions at the location of the goal cannot be shown to avoid it.
        self.check(STILL, [(0, NO_POINT)], ([[[]]], [], [[(0, [])]], [], [[(None, [(1, [])])]]), False)
        self.check(STILL, [(0, NO_POINT)], ([[[[-1]]]], [], [[(0, [(1, [1])])]], [], [[(None, [(1, [1])])]]), True)

    def test_each_change_of_an_example(self):
        ramp_proof = make_certificate(RAMP, RAMP_GOALS, all_nodes(RAMP))
        for system, goals, certificate in [(LAMP, LAMP_GOALS, LAMP_PROOF), (RAMP, RAMP_GOALS, ramp_proof)]:
            self.check(system, goals, certificate, True)
            accepted = 0
            for other in changed(certificate):
                expected = slow_accepts(system, goals, other)
                self.assertIs(is_certificate(system, goals, other), expected, other)
                accepted += expected
            # Some factors may be greater, as what they add is at least 0 or nothing, or all 3 times as great.
            self.assertLess(accepted, len(changed(certificate)) // 5)

    def test_some_changes_of_random_examples(self):
        rng = Random(252)
        seen = {True: 0, False: 0}
        for _ in range(120):
            system = random_started_system(rng)
            goals = random_goals(rng, system, [])
            result = search(system, goals, fuel=3)
            if result[0] == "closed":
                certificate = make_certificate(system, goals, result[1])
                self.assertTrue(is_certificate(system, goals, certificate))
                others = changed(certificate)
                for other in rng.sample(others, min(40, len(others))):
                    expected = slow_accepts(system, goals, other)
                    self.assertIs(is_certificate(system, goals, other), expected, other)
                    seen[expected] += 1
        self.assertGreater(seen[True], 20)
        self.assertGreater(seen[False], 500)

    def test_no_goal_is_reached_where_a_certificate_is_accepted(self):
        rng = Random(253)
        for name in ("tank", "clock", "no variables"):
            system = VALID[name]
            certificate = make_certificate(system, [], all_nodes(system))
            for _ in range(60):
                goals = random_goals(rng, system, all_nodes(system))
                ends = [[(None, [(rng.randint(1, 2), [rng.randint(0, 1)] * 9)]) for _ in certificate[0][where]]
                        for where, _ in goals]
                given = (*certificate[:4], ends)
                made = make_certificate(system, goals, all_nodes(system))
                for candidate in (given, made):
                    if candidate and is_certificate(system, goals, candidate):
                        self.assertEqual(search(system, goals)[0], "closed")


if __name__ == "__main__":
    unittest.main()
