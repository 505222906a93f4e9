"""Points 20 to 23: the nodes of a search, and shortest runs to goals."""

import unittest
from random import Random

from floodmark.errors import OutOfRange
from floodmark.poly import generators, has_point, meet, polyhedron, spanned
from floodmark.runs import is_initial, states_of
from floodmark.search import find_nodes, search
from floodmark.successors import jump_forward, wait_forward
from floodmark.system import invariant_of
from tests.checking import ProgramTest
from tests.examples import CLOCK, NO_VARIABLES, STILL, TANK, random_goals, random_started_system
from tests.searches import COUNTER, NO_POINT, TREE, TURN, all_nodes, at, counter, interval, slow_layers, slow_search
from tests.shapes import box
from tests.slow import both_ways


class NodesTest(ProgramTest):

    def check(self, system, fuel, layers, closed):
        with self.subTest(system=system, fuel=fuel):
            self.assertEqual(self.call(find_nodes, system, fuel=fuel), (layers, closed))

    def counts(self, system, fuel):
        """Return the numbers of nodes in the layers, and whether the search is closed."""
        layers, closed = self.call(find_nodes, system, fuel=fuel)
        self.assertIs(type(closed), bool)
        self.assertIs(type(layers), list)
        for layer in layers:
            self.assertIs(type(layer), list)
        return [len(layer) for layer in layers], closed

    def test_a_tank(self):
        layers = [
            [(0, interval(0, 1), interval(0, 10), None, None)],
            [(1, interval(8, 10), interval(2, 10), 0, 0)],
            [(2, at(0), at(0), 1, 2)],
        ]
        self.check(TANK, 0, layers[:1], False)
        self.check(TANK, 1, layers[:2], False)
        # Layer 2 has a node; only a search for layer 3 finds that there are no more.
        self.check(TANK, 2, layers, False)
        self.check(TANK, 3, layers, True)
        self.check(TANK, 50, layers, True)

    def test_parameters_and_clocks(self):
        bounds = [[-1, 1, 0, 0], [5, -1, 0, 0]]
        cone = [[0, 0, -1, 2], [0, 0, 2, -1], [0, 1, -1, 0]]
        given = polyhedron(3, box([(2, 2), (0, None), (None, 7)]))
        halved = [[0, 0, 1, 0], [0, 1, -2, 0]]
        full = [[0, 1, -1, 0]]
        first = polyhedron(3, [[0, 0, -1, 2], [0, 0, 2, -1]] + bounds, full)
        second = polyhedron(3, [[0, 0, -1, 4], [0, 0, 2, -1]] + bounds, full)
        layers = [
            [
                (0, polyhedron(3, bounds, [[0, 0, 1, 0], [0, 0, 0, 1]]),
                 polyhedron(3, bounds + cone), None, None),
                (1, given, given, None, None),
            ],
            [
                (0, polyhedron(3, bounds + halved, [[0, 0, 0, 1]]),
                 polyhedron(3, bounds + [[0, 0, 0, 1], [0, 0, 2, -1], [0, 1, -2, 4], [0, 1, -1, 0]]), 0, 0),
                (1, first, first, 0, 1),
            ],
            [(1, second, second, 2, 1)],
        ]
        self.check(CLOCK, 10, layers, True)
        self.check(CLOCK, 1, layers[:2], False)

    def test_no_variables(self):
        layers = [[(0, NO_POINT, NO_POINT, None, None)], [(1, NO_POINT, NO_POINT, 0, 0)]]
        self.check(NO_VARIABLES, 5, layers, True)
        self.check(NO_VARIABLES, 0, layers[:1], False)

    def test_no_starts(self):
        for fuel in (0, 1, 10):
            self.check(STILL, fuel, [], True)
            self.check((*TANK[:4], []), fuel, [], True)

    def test_no_jumps(self):
        system = (*TANK[:3], [], [(1, interval(5, 6)), (0, interval(5, 6))])
        layer = [(1, interval(5, 6), interval(2, 6), None, None), (0, interval(5, 6), interval(5, 10), None, None)]
        self.check(system, 0, [layer], False)
        self.check(system, 1, [layer], True)
        self.check(system, 7, [layer], True)

    def test_starts_and_invariants_without_a_common_point(self):
        system = (*TANK[:4], [(0, interval(11, None)), (1, interval(None, 1))])
        self.check(system, 0, [], True)
        self.check(system, 9, [], True)
        nowhere = (1, 0, [([[-1, 0]], [[1, 1]])], [(0, 0, [])], [(0, interval(0, 5))])
        self.check(nowhere, 0, [], True)
        system = (*TANK[:3], [], [(0, interval(11, None)), (0, interval(9, None))])
        self.check(system, 3, [[(0, interval(9, 10), interval(9, 10), None, None)]], True)

    def test_an_entry_is_within_the_invariant(self):
        system = (*TANK[:3], [], [(1, interval(0, 5))])
        self.check(system, 1, [[(1, interval(2, 5), interval(2, 5), None, None)]], True)

    def test_starts_that_are_included_in_earlier_ones(self):
        system = counter(start=[3, 4, 3, 5, 4])
        layer = [(0, at(value), at(value), None, None) for value in (3, 4, 5)]
        self.check(system, 0, [layer], False)
        system = (1, 0, [([], [[1, 0]]), ([], [[1, 0]])], [], [
            (0, interval(1, 4)), (0, interval(1, 2)), (1, interval(1, 2)), (0, interval(0, 9)), (0, interval(5, 9))])
        # Only nodes with the same location count, and a node that was kept remains.
        layer = [(0, interval(1, 4), interval(1, 4), None, None), (1, interval(1, 2), interval(1, 2), None, None),
                 (0, interval(0, 9), interval(0, 9), None, None)]
        self.check(system, 1, [layer], True)

    def test_a_union_of_regions_includes_nothing(self):
        system = (1, 0, [([], [[1, 0]])], [], [(0, interval(0, 2)), (0, interval(2, 4)), (0, interval(1, 3))])
        self.assertEqual(self.counts(system, 1), ([3], True))

    def test_regions_count_and_not_entries(self):
        # The first node waits up to 9, so it includes the second one, whose entry is apart.
        system = (1, 0, [([[9, -1]], [[1, 1]])], [], [(0, at(0)), (0, at(5))])
        self.check(system, 1, [[(0, at(0), interval(0, 9), None, None)]], True)
        # The first region is a part of the second one.
        system = (*system[:4], [(0, at(5)), (0, at(0))])
        layer = [(0, at(5), interval(5, 9), None, None), (0, at(0), interval(0, 9), None, None)]
        self.check(system, 1, [layer], True)

    def test_nodes_that_are_included_in_earlier_ones(self):
        # From x to x + 1, to x, to x + 2 and again to x + 1, while x is at most 3.
        system = counter([-1, -1, 1], [0, -1, 1], [-2, -1, 1], [-1, -1, 1], invariant=[[3, -1]])
        layers = [
            [(0, at(0), at(0), None, None)],
            [(0, at(1), at(1), 0, 0), (0, at(2), at(2), 0, 2)],
            # 2 is known since the layer before; 3 is found twice.
            [(0, at(3), at(3), 1, 2)],
        ]
        self.check(system, 9, layers, True)

    def test_nodes_and_jumps_in_order(self):
        # Jumps 0 and 2 lead to location 1 and jump 1 back to 0; the values of the parents differ.
        add = [both_ways([[-item, -1, 1]]) for item in (10, 1, 20)]
        system = (1, 0, [([], [[1, 0]]), ([], [[1, 0]])], [(0, 1, add[0]), (1, 0, add[1]), (0, 1, add[2])],
                  [(0, at(0)), (1, at(1)), (0, at(2))])
        layers = [
            [(0, at(0), at(0), None, None), (1, at(1), at(1), None, None), (0, at(2), at(2), None, None)],
            [(1, at(10), at(10), 0, 0), (1, at(20), at(20), 0, 2),
             (1, at(12), at(12), 2, 0), (1, at(22), at(22), 2, 2)],
            [(0, at(11), at(11), 3, 1), (0, at(21), at(21), 4, 1),
             (0, at(13), at(13), 5, 1), (0, at(23), at(23), 6, 1)],
        ]
        # Location 1 with the value 1 leads to location 0 with the value 2, which is a start.
        self.check(system, 2, layers, False)

    def test_cut_short_by_the_fuel(self):
        self.assertEqual(self.counts(COUNTER, 0), ([1], False))
        self.assertEqual(self.counts(COUNTER, 9), ([1] * 10, False))
        self.assertEqual(self.counts(TREE, 4), ([1, 2, 4, 8, 16], False))

    def test_cut_short_by_a_61st_node(self):
        self.assertEqual(self.counts(COUNTER, 58), ([1] * 59, False))
        self.assertEqual(self.counts(COUNTER, 59), ([1] * 60, False))
        for fuel in (60, 61, 1000):
            self.assertEqual(self.counts(COUNTER, fuel), ([1] * 61, False))
        for fuel in (5, 6, 99):
            self.assertEqual(self.counts(TREE, fuel), ([1, 2, 4, 8, 16, 30], False))
        layers, _ = find_nodes(TREE, fuel=8)
        self.assertEqual([node[1] for layer in layers for node in layer], [at(value) for value in range(61)])
        self.assertEqual(layers[5][-1], (0, at(60), at(60), 29, 1))

    def test_just_60_nodes(self):
        system = counter([-1, -1, 1], invariant=[[59, -1]])
        self.assertEqual(self.counts(system, 59), ([1] * 60, False))
        self.assertEqual(self.counts(system, 60), ([1] * 60, True))
        self.assertEqual(self.counts(system, 200), ([1] * 60, True))

    def test_a_negative_fuel(self):
        for system in (TANK, STILL, NO_VARIABLES):
            for fuel in (-1, -100):
                with self.assertRaises(OutOfRange):
                    find_nodes(system, fuel=fuel)
                with self.assertRaises(OutOfRange):
                    search(system, [], fuel=fuel)
                with self.assertRaises(OutOfRange):
                    search(system, system[4], fuel=fuel)

    def test_as_defined(self):
        rng = Random(201)
        deep = 0
        for _ in range(90):
            system = random_started_system(rng)
            fuel = rng.choice([0, 1, 3, 5])
            layers, closed = slow_layers(system, fuel)
            self.check(system, fuel, layers, closed)
            deep += len(layers) > 2
        self.assertGreater(deep, 20)

    def test_each_state_of_a_run_is_in_a_region(self):
        rng = Random(202)
        jumps_seen = 0
        for _ in range(80):
            system = random_started_system(rng)
            layers, _ = find_nodes(system, fuel=3)
            # With 61 nodes, the last layer may be incomplete.
            if sum(len(layer) for layer in layers) <= 60:
                for location, region in system[4]:
                    jumps_seen += self.wander(rng, system, layers, (location, region))
        self.assertGreater(jumps_seen, 60)

    def wander(self, rng, system, layers, place):
        """Follow some steps from a start, checking each state, and return the number of jumps."""
        location, region = place
        invariant = invariant_of(system, location)
        entry = meet(region, invariant) if invariant else None
        jumps = 0
        while entry:
            point = rng.choice(generators(entry)[0])
            later = wait_forward(system, location, spanned(system[0], [point]))
            point = rng.choice(generators(later)[0])
            nodes = [node for layer in layers[:jumps + 1] for node in layer if node[0] == location]
            self.assertTrue(any(has_point(node[2], point) for node in nodes))
            ways = [jump for jump, (source, _, _) in enumerate(system[3]) if source == location]
            if jumps == 3 or not ways:
                break
            jump = rng.choice(ways)
            entry = jump_forward(system, jump, spanned(system[0], [point]))
            location = system[3][jump][1]
            jumps += entry is not None
        return jumps


class SearchTest(ProgramTest):

    def check(self, system, goals, expected, **fuel):
        with self.subTest(goals=goals, fuel=fuel):
            self.assertEqual(self.call(search, system, goals, **fuel), expected)

    def test_a_goal_that_a_start_meets_at_once(self):
        self.check(TANK, [(0, interval(0, 50))], ("reached", (0, [1, 0]), []))
        self.check(TANK, [(0, interval(0, 50))], ("reached", (0, [1, 0]), []), fuel=0)
        self.check(TANK, [(0, interval(1, 3))], ("reached", (0, [1, 0]), [("wait", [1, 1])]), fuel=0)
        self.check(NO_VARIABLES, [(0, NO_POINT)], ("reached", (0, [1]), []), fuel=0)

    def test_a_wait_to_the_same_point_is_no_step(self):
        system = (*TANK[:4], [(0, interval(3, 9))])
        self.check(system, [(0, interval(3, 4))], ("reached", (0, [1, 3]), []))
        # 5 can be reached by a wait from 3, the first point of the entry.
        self.check(system, [(0, interval(5, 5))], ("reached", (0, [1, 3]), [("wait", [1, 5])]))
        run = [("wait", [1, 8]), ("jump", 0, [1, 8])]
        self.check(system, [(1, interval(8, 9))], ("reached", (0, [1, 3]), run))

    def test_jumps_on_the_way(self):
        run = [("wait", [1, 8]), ("jump", 0, [1, 8]), ("wait", [1, 2])]
        self.check(TANK, [(1, interval(None, 2))], ("reached", (0, [1, 0]), run))
        self.check(TANK, [(1, interval(None, 2))], ("reached", (0, [1, 0]), run), fuel=1)
        self.check(TANK, [(1, interval(None, 2))], ("unknown",), fuel=0)
        run = [("wait", [1, 8]), ("jump", 0, [1, 8]), ("wait", [1, 2]), ("jump", 2, [1, 0])]
        self.check(TANK, [(2, interval(None, None))], ("reached", (0, [1, 0]), run))
        # The first point of the values from 9 on is 9, and not 10.
        run = [("wait", [1, 9]), ("jump", 0, [1, 9])]
        self.check(TANK, [(1, interval(9, None))], ("reached", (0, [1, 0]), run))

    def test_two_jumps_without_a_wait_between(self):
        system = (1, 0, [([], [[1, 1]])], [(0, 0, [[0, -2, 1], [-1, 0, 1]]), (0, 0, [[-5, 1, 0], [2, 1, -1]])],
                  [(0, interval(None, -9))])
        # The start has a ray but only one point; the region of the first node is everything.
        result = self.call(search, system, [(0, at(3))])
        self.assertEqual(result, ("reached", (0, [1, -9]), [("wait", [1, 3])]))
        run = [("jump", 0, [1, 3]), ("jump", 1, [1, 20])]
        system = counter([-3, 0, 1], [-17, -1, 1], start=[5])
        self.assertEqual(self.call(search, system, [(0, at(20))]), ("reached", (0, [1, 5]), run))

    def test_points_that_are_fractions(self):
        # 1/2 is the vector [2, 1], which comes after [1, 3].
        goal = (0, polyhedron(1, [[-1, 2], [3, -1]]))
        self.check(TANK, [goal], ("reached", (0, [1, 0]), [("wait", [1, 3])]))
        goal = (0, polyhedron(1, [[-7, 3], [5, -2]]))
        self.check(TANK, [goal], ("reached", (0, [1, 0]), [("wait", [2, 5])]))
        # In the square, both rise from (0, 0) to (4, 4) at most; the jump leads from (x, y) to (4 - y, x).
        corner = (0, [1, 0, 0])
        self.check(TURN, [(0, polyhedron(2, [[-7, 0, 2]]))], ("reached", corner, [("wait", [1, 4, 4])]))
        goal = (1, polyhedron(2, [[15, -4, 0]]))
        self.check(TURN, [goal], ("reached", corner, [("wait", [2, 7, 7]), ("jump", 1, [2, 7, 7])]))
        goal = (0, polyhedron(2, [[-1, 3, 0], [1, -2, 0], [-2, 0, 1]]))
        self.check(TURN, [goal], ("reached", corner, [("wait", [2, 7, 7]), ("jump", 0, [2, 1, 7])]))

    def test_the_first_goal_and_the_first_node(self):
        system = (*TANK[:3], [], [(0, at(5)), (1, interval(4, 4))])
        first, second, third = (0, at(9)), (0, at(6)), (1, at(3))
        self.check(system, [first, second, third], ("reached", (0, [1, 5]), [("wait", [1, 9])]))
        self.check(system, [second, first, third], ("reached", (0, [1, 5]), [("wait", [1, 6])]))
        # The first node decides, also where its goal is not the first one.
        self.check(system, [third, second, first], ("reached", (0, [1, 5]), [("wait", [1, 6])]))
        self.check(system, [third, (0, at(4))], ("reached", (1, [1, 4]), [("wait", [1, 3])]))
        self.check(system, [(0, at(4)), third], ("reached", (1, [1, 4]), [("wait", [1, 3])]))

    def test_the_location_of_a_goal_counts(self):
        self.check(TANK, [(1, interval(0, 1)), (2, interval(1, 9))], ("closed", all_nodes(TANK)))
        self.check(TANK, [(1, interval(0, 1)), (2, interval(1, 9))], ("unknown",), fuel=2)
        self.check(TANK, [(1, interval(0, 1)), (0, at(10))], ("reached", (0, [1, 0]), [("wait", [1, 10])]))

    def test_goals_at_locations_that_are_not_reached(self):
        self.check(NO_VARIABLES, [(2, NO_POINT)], ("closed", all_nodes(NO_VARIABLES)))
        self.check(CLOCK, [(2, (3, [], []))], ("closed", all_nodes(CLOCK)))
        self.check(CLOCK, [(2, (3, [], []))], ("unknown",), fuel=2)

    def test_no_goals(self):
        self.check(TANK, [], ("closed", all_nodes(TANK)))
        self.check(TANK, [], ("closed", all_nodes(TANK)), fuel=3)
        self.check(TANK, [], ("unknown",), fuel=2)
        self.check(STILL, [], ("closed", []))
        self.check(STILL, [], ("closed", []), fuel=0)
        self.check(COUNTER, [], ("unknown",), fuel=100)

    def test_no_starts(self):
        self.check(STILL, [(0, NO_POINT)], ("closed", []), fuel=0)
        self.check((*TANK[:4], []), [(0, interval(None, None))], ("closed", []))

    def test_a_fuel_that_is_left_out(self):
        run = [("jump", 0, [1, value]) for value in range(1, 11)]
        self.check(COUNTER, [(0, at(10))], ("reached", (0, [1, 0]), run))
        self.check(COUNTER, [(0, at(10))], ("reached", (0, [1, 0]), run), fuel=10)
        self.check(COUNTER, [(0, at(10))], ("unknown",), fuel=9)
        self.check(COUNTER, [(0, at(11))], ("unknown",))
        system = counter([-1, -1, 1], invariant=[[9, -1]])
        self.check(system, [], ("closed", all_nodes(system)))
        self.check(counter([-1, -1, 1], invariant=[[10, -1]]), [], ("unknown",))

    def test_the_61st_node_counts(self):
        result = self.call(search, TREE, [(0, at(60))])
        values = [2, 6, 14, 29, 60]
        ways = [1, 1, 1, 0, 1]
        run = [("jump", way, [1, value]) for way, value in zip(ways, values)]
        self.assertEqual(result, ("reached", (0, [1, 0]), run))
        self.check(TREE, [(0, at(61))], ("unknown",))
        self.check(TREE, [(0, at(61)), (0, interval(59, None))],
                   ("reached", (0, [1, 0]), run[:3] + [("jump", 0, [1, 29]), ("jump", 0, [1, 59])]))
        self.check(COUNTER, [(0, at(61))], ("unknown",), fuel=99)

    def test_as_defined(self):
        rng = Random(203)
        seen = {"reached": 0, "closed": 0, "unknown": 0}
        steps = 0
        for _ in range(130):
            system = random_started_system(rng)
            goals = random_goals(rng, system, all_nodes(system, 4))
            fuel = rng.choice([0, 1, 3, 5])
            expected = slow_search(system, goals, fuel)
            self.check(system, goals, expected, fuel=fuel)
            seen[expected[0]] += 1
            steps += len(expected[2]) > 1 if expected[0] == "reached" else 0
        self.assertGreater(min(seen.values()), 20)
        self.assertGreater(steps, 8)

    def test_runs_lead_to_goals(self):
        rng = Random(204)
        jumps_seen = 0
        for _ in range(100):
            system = random_started_system(rng)
            goals = random_goals(rng, system, all_nodes(system, 4))
            result = search(system, goals, fuel=5)
            if result[0] == "reached":
                _, state, run = result
                self.assertTrue(is_initial(system, state))
                location, point = states_of(system, state, run)[-1]
                self.assertTrue(any(where == location and has_point(goal, point) for where, goal in goals))
                jumps = sum(step[0] == "jump" for step in run)
                jumps_seen += jumps
                if jumps:
                    self.assertEqual(search(system, goals, fuel=jumps - 1), ("unknown",))
        self.assertGreater(jumps_seen, 30)

    def test_shortest_ways_without_variables(self):
        rng = Random(205)
        for _ in range(60):
            jumps = [(rng.randrange(8), rng.randrange(8), [[rng.randint(-1, 2)]]) for _ in range(rng.randint(4, 24))]
            system = (0, 0, [([], [[1]])] * 8, jumps, [(rng.randrange(8), NO_POINT)])
            far = {system[4][0][0]: 0}
            for many in range(8):
                for source, target, relation in jumps:
                    if far.get(source) == many and relation[0][0] >= 0:
                        far.setdefault(target, many + 1)
            for location in range(8):
                result = search(system, [(location, NO_POINT)])
                self.assertEqual(result[0], "reached" if location in far else "closed")
                if location in far:
                    self.assertEqual(len(result[2]), far[location])


if __name__ == "__main__":
    unittest.main()
