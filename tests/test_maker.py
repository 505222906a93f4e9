"""Point 29: certificates that are made from the nodes of a search."""

import unittest
from random import Random

from floodmark.certificate import is_certificate
from floodmark.maker import make_certificate
from floodmark.poly import polyhedron
from floodmark.search import find_nodes, search
from tests.checking import ProgramTest
from tests.examples import CLOCK, NO_VARIABLES, STILL, TANK, random_goals, random_started_system, same
from tests.proofs import (LAMP, LAMP_GOALS, RAMP, RAMP_GOALS, slow_accepts, slow_conditions, slow_jump_premises,
                          slow_start_premises)
from tests.searches import COUNTER, NO_POINT, TURN, all_nodes, at, counter, interval
from tests.shapes import box
from tests.slow import can_hold, slow_least, wide


def slow_index(premises, pieces):
    """Return the index of the first piece that holds where the premises do, or None."""
    if not can_hold(premises, len(premises[0]) if premises else 1):
        return None
    for index, piece in enumerate(pieces):
        least = [slow_least(premises, condition) for condition in piece]
        if all(value is not None and value >= 0 for value in least):
            return index
    raise AssertionError("there is no such piece")


def indexes(rows):
    return [[index for index, _ in row] for row in rows]


class MakerTest(ProgramTest):

    def made(self, system, goals, nodes):
        """Return the certificate, after checking that it has the kinds of values that it must have."""
        certificate = self.call(make_certificate, system, goals, nodes)
        if certificate is None:
            return None
        self.assertIs(type(certificate), tuple)
        self.assertEqual(len(certificate), 5)
        for part in certificate:
            self.assertIs(type(part), list)
        _, starts, waits, jumps, ends = certificate
        for row in [starts, *waits, *jumps, *ends]:
            for claim in row:
                index, found = claim
                self.assertIs(type(claim), tuple)
                for multipliers in found:
                    self.assertIs(type(multipliers), tuple)
                    scale, factors = multipliers
                    self.assertTrue(all(type(item) is int for item in [scale, *factors]))
        return certificate

    def accepted(self, system, goals, nodes):
        certificate = self.made(system, goals, nodes)
        self.assertIsNotNone(certificate)
        self.assertTrue(self.call(is_certificate, system, goals, certificate))
        self.assertTrue(slow_accepts(system, goals, certificate))
        return certificate

    def check(self, system, goals, pieces, starts, jumps):
        """Check a certificate that is made: its pieces, and the indexes of starts and jumps."""
        with self.subTest(system=system, goals=goals):
            result = search(system, goals, fuel=20)
            self.assertEqual(result[0], "closed")
            certificate = self.accepted(system, goals, result[1])
            self.assertEqual(certificate[0], pieces)
            self.assertEqual(indexes([certificate[1]]), [starts])
            self.assertEqual(indexes(certificate[2]), [list(range(len(row))) for row in pieces])
            self.assertEqual(indexes(certificate[3]), jumps)
            self.assertEqual(indexes(certificate[4]), [[None] * len(pieces[where]) for where, _ in goals])

    def test_examples(self):
        pieces = [[[[0, 1], [10, -1]]], [[[-2, 1], [10, -1]]], [[[0, 1], [0, -1]]]]
        self.check(TANK, [], pieces, [0], [[0], [0], [0]])
        goals = [(0, interval(11, None)), (2, interval(1, 2)), (1, interval(None, 1)), (1, interval(12, 13))]
        self.check(TANK, goals, pieces, [0], [[0], [0], [0]])
        self.check(LAMP, LAMP_GOALS, [[[[0, 1], [10, -1]]], [[[-8, 1], [10, -1]]]], [0], [[0]])
        pieces = [
            [[[-2, 2, 1], [0, 0, -1], [4, -1, 0], [6, -2, -1]], [[0, 0, -1], [0, 1, 0], [4, -1, 0], [6, -2, -1]]],
            [[[-3, 1, 0], [0, -1, 1]]], []]
        self.check(RAMP, RAMP_GOALS, pieces, [0, 0, None], [[None, None], [0], [1, 1]])

    def test_systems_without_variables_jumps_or_starts(self):
        self.check(STILL, [], [[]], [], [])
        self.check(STILL, [(0, NO_POINT)], [[]], [], [])
        self.check(NO_VARIABLES, [], [[[]], [[]], []], [0, None], [[0], [None], [None]])
        self.check(NO_VARIABLES, [(2, NO_POINT)], [[[]], [[]], []], [0, None], [[0], [None], [None]])
        self.check((*TANK[:4], []), [(0, at(3))], [[], [], []], [], [[], [], []])
        self.check((*TANK[:3], [], TANK[4]), [(1, at(3)), (0, at(11))], [[[[0, 1], [10, -1]]], [], []], [0], [])

    def test_pieces_without_conditions(self):
        system = (1, 0, [([], [[1, 1], [1, -1]])], [(0, 0, [])], [(0, at(3)), (0, at(4))])
        self.check(system, [], [[[]]], [0, 0], [[0]])

    def test_what_is_equal_has_a_condition_and_its_negative(self):
        system = counter([-1, -1, 1], invariant=[[2, -1]])
        pieces = [[[[0, 1], [0, -1]], [[-1, 1], [1, -1]], [[-2, 1], [2, -1]]]]
        self.check(system, [(0, at(3))], pieces, [0], [[1, 2, None]])

    def test_the_first_piece_and_not_the_one_of_the_node(self):
        # The second start is in the region of the first one too, and the third one only in its own.
        system = (1, 0, [([], [[1, 0]])], [(0, 0, same(1))],
                  [(0, interval(0, 4)), (0, interval(1, 2)), (0, interval(3, 6)), (0, interval(3, 4))])
        pieces = [[[[0, 1], [4, -1]], [[-3, 1], [6, -1]]]]
        self.check(system, [], pieces, [0, 0, 1, 0], [[0, 1]])
        # A later start has a greater region; the first piece is still the one that is named.
        system = (*system[:4], [(0, interval(1, 2)), (0, interval(0, 4)), (0, interval(1, 1))])
        pieces = [[[[-1, 1], [2, -1]], [[0, 1], [4, -1]]]]
        self.check(system, [], pieces, [0, 1, 0], [[0, 1]])

    def test_what_is_not_possible_has_no_index(self):
        # The first pieces of the location hold wherever the premises do, since these hold nowhere.
        system = (1, 0, [([[9, -1]], [[1, 1]])], [(0, 0, [[-10, 1, 0]]), (0, 0, [[-9, 1, 0], *same(1)])],
                  [(0, interval(0, 1)), (0, interval(10, 11))])
        self.check(system, [], [[[[0, 1], [9, -1]]]], [0, None], [[None], [0]])
        # A jump into an invariant that holds nowhere.
        system = (1, 0, [([], [[1, 0]]), ([[-1, 0]], [[1, 0]])], [(0, 1, []), (1, 0, [])], [(0, at(2)), (1, at(2))])
        self.check(system, [(1, interval(None, None))], [[[[-2, 1], [2, -1]]], []], [0, None], [[None], []])

    def test_parameters_rates_of_0_and_equal_directions(self):
        nodes = all_nodes(CLOCK)
        # No run has x greater than the parameter at location 0, or the parameter above 5.
        goals = [(0, polyhedron(3, [[-1, -1, 1, 0]])), (2, (3, [], [])), (1, polyhedron(3, [[-6, 1, 0, 0]]))]
        certificate = self.accepted(CLOCK, goals, nodes)
        self.assertEqual([len(row) for row in certificate[0]], [2, 3, 0])
        self.assertEqual(indexes(certificate[3]), [[1, 1], [1, 2], [None, None, None]])
        self.accepted(RAMP, RAMP_GOALS, all_nodes(RAMP))
        self.accepted(TURN, [(1, polyhedron(2, [[6, -1, -1]]))], all_nodes(TURN))

    def test_nodes_of_searches_that_are_not_closed(self):
        self.assertIsNone(self.made(COUNTER, [], all_nodes(COUNTER, 5)))
        self.assertIsNone(self.made(COUNTER, [], all_nodes(COUNTER, 99)))
        self.assertIsNone(self.made(TANK, [], all_nodes(TANK, 0)))
        self.assertIsNone(self.made(TANK, [], all_nodes(TANK, 1)))
        # Layer 2 has all nodes, though the search with this fuel is not closed.
        self.assertEqual(find_nodes(TANK, fuel=2)[1], False)
        self.accepted(TANK, [], all_nodes(TANK, 2))

    def test_nodes_that_meet_a_goal(self):
        for goal in [(0, at(10)), (0, interval(-3, 0)), (1, interval(4, 6)), (2, interval(0, 3))]:
            self.assertIsNone(self.made(TANK, [goal], all_nodes(TANK)))
            self.assertIsNone(self.made(TANK, [(0, at(11)), goal], all_nodes(TANK)))

    def test_other_nodes(self):
        nodes = all_nodes(TANK)
        for place in range(3):
            self.assertIsNone(self.made(TANK, [], nodes[:place] + nodes[place + 1:]))
        self.assertIsNone(self.made(TANK, [], []))
        self.accepted((*TANK[:4], []), [], [])
        self.accepted((*TANK[:4], [(0, at(11))]), [(1, at(3))], [])
        # A region that a wait leaves.
        self.assertIsNone(self.made(TANK, [], [(0, at(0), interval(0, 9), None, None), *nodes[1:]]))
        # Greater regions than those of the search will do, where no goal is in them.
        wide_nodes = [(0, at(0), interval(0, None), None, None), (1, at(8), interval(None, None), 0, 0), nodes[2]]
        certificate = self.accepted(TANK, [(1, at(11)), (2, at(1))][1:], wide_nodes)
        self.assertEqual(certificate[0], [[[[0, 1]]], [[]], [[[0, 1], [0, -1]]]])
        self.assertIsNone(self.made(TANK, [(1, at(11)), (2, at(1))], wide_nodes))

    def test_the_order_of_the_nodes(self):
        nodes = all_nodes(RAMP)
        certificate = self.accepted(RAMP, RAMP_GOALS, nodes[::-1])
        self.assertEqual(certificate[0][0][1], [[-2, 2, 1], [0, 0, -1], [4, -1, 0], [6, -2, -1]])
        self.assertEqual(indexes([certificate[1]]), [[0, 0, None]])
        self.assertEqual(indexes(certificate[3]), [[None, None], [0], [0, 0]])

    def test_closed_searches(self):
        rng = Random(291)
        seen = 0
        for _ in range(150):
            system = random_started_system(rng)
            goals = random_goals(rng, system, [])
            result = search(system, goals, fuel=4)
            if result[0] == "closed":
                seen += len(result[1]) > 1
                self.as_defined(system, goals, result[1])
        self.assertGreater(seen, 20)

    def as_defined(self, system, goals, nodes):
        """Check the certificate of a closed search whose nodes meet no goal."""
        n, _, locations, jumps, starts = system
        regions = [[node[2] for node in nodes if node[0] == place] for place in range(len(locations))]
        pieces = [[slow_conditions(region) for region in row] for row in regions]
        certificate = self.accepted(system, goals, nodes)
        self.assertEqual(certificate[0], pieces)
        self.assertEqual(indexes(certificate[2]), [list(range(len(row))) for row in pieces])
        expected = [slow_index(slow_start_premises(system, start), pieces[where])
                    for start, (where, _) in enumerate(starts)]
        self.assertEqual(indexes([certificate[1]]), [expected])
        if n < 3:
            expected = []
            for jump, (source, target, _) in enumerate(jumps):
                after = [[wide(condition, n, 0) for condition in piece] for piece in pieces[target]]
                premises = [slow_jump_premises(system, jump, piece) for piece in pieces[source]]
                expected.append([slow_index(rows, after) for rows in premises])
            self.assertEqual(indexes(certificate[3]), expected)

    def test_many_nodes_rates_and_conditions(self):
        rows = [[20, -1, -1, -1], [10, 1, -1, 0], [15, 1, -1, 1]]
        rates = [[1, 0, 0, 0], [1, 0, 1, 1], [1, 1, 0, 1], [2, 1, 1, 1], [3, 1, 1, 2], [3, 2, 1, 2], [1, 0, 0, 1]]
        jumps = []
        for place in range(4):
            guard = [[6 - place, -1, 0, -1, 0, 0, 0], [3, 0, -1, 0, 0, 0, -1]]
            step = [list(row) for row in same(3)]
            step[2 * (place % 3)][0], step[2 * (place % 3) + 1][0] = -1, 1
            jumps.append((place, (place + 1) % 4, guard + step))
        system = (3, 0, [(box([(0, 9)] * 3) + rows, rates)] * 4, jumps, [(0, polyhedron(3, box([(0, 1)] * 3)))])
        # The invariant lets no sum be greater than 20.
        goals = [(2, polyhedron(3, [[-21, 1, 1, 1]]))]
        result = search(system, goals, fuel=20)
        self.assertEqual((result[0], len(result[1])), ("closed", 7))
        self.accepted(system, goals, result[1])


if __name__ == "__main__":
    unittest.main()
