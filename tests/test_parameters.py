"""Points 30 and 31: critical values of the parameters, and ranges of conditions."""

import unittest
from fractions import Fraction
from random import Random

from floodmark.errors import OutOfRange
from floodmark.parameters import critical_values, value_range
from floodmark.poly import generators, has_point, includes, meet, polyhedron
from floodmark.search import search
from tests.checking import ProgramTest
from tests.examples import CLOCK, NO_VARIABLES, STILL, TANK, kept, random_goals, random_started_system
from tests.searches import COUNTER, NO_POINT, TREE, all_nodes, at, counter, interval
from tests.shapes import box, random_vector
from tests.slow import conditions_in, slow_least, without_last

SPACE = (3, [], [])


def reaches(goal_conditions, location=0):
    return [(location, polyhedron(len(goal_conditions[0]) - 1, goal_conditions))]


def slow_values(system, goals, jumps):
    """Return the critical values as point 30 says it."""
    n, fixed, _, _, _ = system
    found = []
    for location, _, region, _, _ in all_nodes(system, jumps):
        for where, goal in goals:
            rows = conditions_in(region) + conditions_in(goal)
            if where == location and meet(goal, region) is not None:
                projected = without_last(rows, n - fixed)
                found.append(polyhedron(fixed, [row for row in projected if len(row) == fixed + 1]))
    outer = [one for one in found if not any(other != one and includes(other, one) for other in found)]
    return sorted([one for place, one in enumerate(outer) if one not in outer[:place]])


def system_with_parameters(rng):
    """Return a system with starts and at least one parameter whose searches are not too long."""
    while True:
        system = random_started_system(rng)
        if system[1] > 0 and system[4] and len(all_nodes(system, 2)) in range(2, 40):
            return system


class CriticalValuesTest(ProgramTest):

    def check(self, system, goals, jumps, expected):
        with self.subTest(goals=goals, jumps=jumps):
            self.assertEqual(self.call(critical_values, system, goals, jumps=jumps), expected)

    def test_one_parameter(self):
        # The clock is at most 2 p at location 0, so it gets to 8 if p is at least 4.
        for jumps in (0, 1, 2, 10):
            self.check(CLOCK, reaches([[-8, 0, 0, 1]]), jumps, [interval(4, 5)])
        self.check(CLOCK, reaches([[-9, 0, 0, 1]]), 3, [polyhedron(1, [[-9, 2], [5, -1]])])
        self.check(CLOCK, reaches([[-10, 0, 0, 1]]), 3, [at(5)])
        self.check(CLOCK, reaches([[-11, 0, 0, 1]]), 3, [])
        self.check(CLOCK, reaches([[0, 1, -1, 0]]), 0, [interval(1, 5)])

    def test_the_number_of_jumps_counts(self):
        goal = reaches([[-6, 0, 0, 1]], 1)
        # At location 1, the second start has the parameter 2; a jump leads there from 3 on. What
        # has no equations comes first.
        self.check(CLOCK, goal, 0, [at(2)])
        self.check(CLOCK, goal, 1, [interval(3, 5), at(2)])
        self.check(CLOCK, goal, 2, [interval(3, 5), at(2)])
        # After the clock was set to 0 it is at least p/4 instead of p/2.
        goal = reaches([[1, 0, 0, -2], [0, 1, -1, 0], [0, -1, 1, 0]], 1)
        self.check(CLOCK, goal, 0, [at(2)])
        self.check(CLOCK, goal, 1, [at(2), at(1)])
        self.check(CLOCK, goal, 2, [interval(1, 2)])

    def test_values_that_are_included_in_others(self):
        self.check(CLOCK, reaches([[-4, 0, 0, 1]], 1), 0, [at(2)])
        self.check(CLOCK, reaches([[-4, 0, 0, 1]], 1), 1, [interval(2, 5)])
        wide, narrow = (0, polyhedron(3, [[-3, 1, 0, 0]])), (0, polyhedron(3, [[-3, 1, 0, 0], [4, -1, 0, 0]]))
        for goals in ([wide, narrow], [narrow, wide], [narrow, wide, narrow]):
            self.check(CLOCK, goals, 0, [interval(3, 5)])

    def test_equal_values(self):
        goal = (0, polyhedron(3, [[-3, 1, 0, 0], [4, -1, 0, 0]]))
        self.check(CLOCK, [goal] * 3, 0, [interval(3, 4)])
        self.check(CLOCK, [goal] * 2, 5, [interval(3, 4)])

    def test_values_that_overlap_remain(self):
        bounds = [(3, 4), (1, 2), (2, 3), (1, 2)]
        goals = [(0, polyhedron(3, box([pair, (None, None), (None, None)]))) for pair in bounds]
        # Their first facets are [-3, 1], [-2, 1] and [-1, 1].
        self.check(CLOCK, goals, 0, [interval(3, 4), interval(2, 3), interval(1, 2)])

    def test_ascending_order(self):
        goals = [(0, polyhedron(3, box([(value, value), (None, None), (None, None)]))) for value in (4, 2, 5, 3)]
        goals.append((0, polyhedron(3, [[-3, 2, 0, 0], [5, -3, 0, 0]])))
        # The lists of equations are compared first: [[-5, 1]] is the least one that is not empty.
        expected = [polyhedron(1, [[-3, 2], [5, -3]]), at(5), at(4), at(3), at(2)]
        self.check(CLOCK, goals, 0, expected)
        self.assertEqual(expected, sorted(expected))

    def test_no_parameters(self):
        self.check(TANK, [(1, at(2))], 0, [])
        self.check(TANK, [(1, at(2))], 1, [NO_POINT])
        self.check(TANK, [(1, at(2)), (0, at(3)), (2, at(0))], 9, [NO_POINT])
        self.check(TANK, [(2, at(1))], 9, [])
        self.check(NO_VARIABLES, [(0, NO_POINT), (1, NO_POINT), (2, NO_POINT)], 3, [NO_POINT])
        self.check(NO_VARIABLES, [(2, NO_POINT)], 3, [])

    def test_only_parameters(self):
        system = (2, 2, [([[0, 1, 0]], [[1, 0, 0]]), ([[9, -1, 0]], [[1, 0, 0]])],
                  [(0, 1, [*kept(2, 2), [-4, 1, 1, 0, 0]])],
                  [(0, polyhedron(2, box([(-3, 3), (0, None)])))])
        self.check(system, [(0, polyhedron(2, [[-1, 0, 1]]))], 0, [polyhedron(2, box([(0, 3), (1, None)]))])
        self.check(system, [(1, (2, [], []))], 0, [])
        self.check(system, [(1, (2, [], []))], 1, [polyhedron(2, box([(0, 3), (0, None)]) + [[-4, 1, 1]])])

    def test_two_parameters_and_a_variable(self):
        # A level rises from p by the jump to p + q.
        system = (3, 2, [([], [[1, 0, 0, 0]])],
                  [(0, 0, [*kept(3, 2), [0, 0, -1, -1, 0, 0, 1], [0, 0, 1, 1, 0, 0, -1]])],
                  [(0, polyhedron(3, box([(0, 9), (0, 9), (None, None)]), [[0, 1, 0, -1]]))])
        goals = [(0, polyhedron(3, [[-10, 0, 0, 1]]))]
        cube = box([(0, 9), (0, 9)])
        values = [polyhedron(2, cube + [[-10, 1, many]]) for many in range(1, 5)]
        self.check(system, goals, 0, [])
        self.check(system, goals, 1, values[:1])
        # More jumps reach more.
        self.check(system, goals, 4, values[3:])

    def test_no_goals_and_no_starts(self):
        for jumps in (0, 5):
            self.check(TANK, [], jumps, [])
            self.check(CLOCK, [], jumps, [])
            self.check(STILL, [(0, NO_POINT)], jumps, [])
            self.check((*CLOCK[:4], []), [(0, SPACE)], jumps, [])

    def test_rays_and_lines(self):
        system = (2, 1, [([], [[1, 0, 1]])], [], [(0, polyhedron(2, [[0, 1, -1]]))])
        self.check(system, [(0, polyhedron(2, [[-3, 0, 1]]))], 0, [(1, [], [])])
        self.check(system, [(0, polyhedron(2, [[0, -1, 1]]))], 0, [(1, [], [])])
        system = (2, 1, [([[5, 0, -1]], [[1, 0, 1]])], [], [(0, polyhedron(2, [[0, -1, 1]]))])
        self.check(system, [(0, polyhedron(2, [[-3, 0, 1]]))], 0, [interval(None, 5)])

    def test_out_of_range(self):
        for goals in ([], [(0, at(0))]):
            for jumps in (-1, -20):
                with self.assertRaises(OutOfRange):
                    critical_values(COUNTER, goals, jumps=jumps)
            self.check(COUNTER, goals, 59, [NO_POINT] if goals else [])
            self.check(TREE, goals, 4, [NO_POINT] if goals else [])
            for system, jumps in [(COUNTER, 60), (COUNTER, 99), (TREE, 5), (TREE, 6)]:
                with self.assertRaises(OutOfRange):
                    critical_values(system, goals, jumps=jumps)
        # 60 nodes are not too many.
        self.check(counter([-1, -1, 1], invariant=[[59, -1]]), [(0, at(59))], 99, [NO_POINT])
        with self.assertRaises(OutOfRange):
            critical_values(STILL, [], jumps=-1)

    def test_as_defined(self):
        rng = Random(301)
        seen = 0
        for _ in range(60):
            system = system_with_parameters(rng)
            nodes = all_nodes(system, 2)
            goals = random_goals(rng, system, nodes) + random_goals(rng, system, nodes)
            expected = slow_values(system, goals, 2)
            self.check(system, goals, 2, expected)
            seen += len(expected) > 1
        self.assertGreater(seen, 8)

    def test_as_searches_with_given_parameters_say(self):
        rng = Random(302)
        seen = {True: 0, False: 0}
        for _ in range(50):
            system = system_with_parameters(rng)
            n, fixed, _, _, starts = system
            goals = random_goals(rng, system, all_nodes(system, 2))
            values = critical_values(system, goals, jumps=2)
            for _ in range(5):
                given = [rng.randint(-2, 2) for _ in range(fixed)]
                here = polyhedron(n, box([(item, item) for item in given] + [(None, None)] * (n - fixed)))
                parts = [(place, meet(region, here)) for place, region in starts]
                narrow = (*system[:4], [part for part in parts if part[1] is not None])
                expected = search(narrow, goals, fuel=2)[0] == "reached"
                self.assertEqual(any(has_point(value, [1, *given]) for value in values), expected)
                seen[expected] += 1
        self.assertGreater(min(seen.values()), 20)


class ValueRangeTest(ProgramTest):

    def check(self, system, location, condition, jumps, expected):
        with self.subTest(location=location, condition=condition, jumps=jumps):
            self.assertEqual(self.call(value_range, system, location, condition, jumps=jumps), expected)

    def test_examples(self):
        self.check(TANK, 0, [0, 1], 0, ((0, 1), (10, 1)))
        self.check(TANK, 0, [0, 1], 9, ((0, 1), (10, 1)))
        self.check(TANK, 0, [-1, 2], 1, ((-1, 1), (19, 1)))
        self.check(TANK, 0, [3, -2], 1, ((-17, 1), (3, 1)))
        self.check(TANK, 0, [7, 0], 1, ((7, 1), (7, 1)))
        self.check(TANK, 1, [0, 1], 1, ((2, 1), (10, 1)))
        self.check(TANK, 2, [5, 1], 2, ((5, 1), (5, 1)))

    def test_locations_that_are_not_reached(self):
        self.check(TANK, 1, [0, 1], 0, None)
        self.check(TANK, 2, [0, 1], 1, None)
        self.check(NO_VARIABLES, 2, [4], 9, None)
        self.check(CLOCK, 2, [0, 1, 1, 1], 9, None)
        self.check(STILL, 0, [4], 0, None)

    def test_several_nodes(self):
        # The second start has p = 2, x >= 0 and a clock of at most 7; jumps lead there with x = p.
        self.check(CLOCK, 1, [0, 1, 0, 0], 0, ((2, 1), (2, 1)))
        self.check(CLOCK, 1, [0, 1, 0, 0], 1, ((1, 1), (5, 1)))
        self.check(CLOCK, 1, [0, -1, 0, 0], 1, ((-5, 1), (-1, 1)))
        system = (*TANK[:3], [], [(1, at(5)), (1, at(3)), (1, at(9))])
        self.check(system, 1, [0, 3], 0, ((6, 1), (27, 1)))
        system = counter(start=[5, -3, 2, 4])
        self.check(system, 0, [0, 1], 0, ((-3, 1), (5, 1)))
        self.check(system, 0, [1, -1], 0, ((-4, 1), (4, 1)))

    def test_the_number_of_jumps_counts(self):
        for jumps in range(5):
            self.check(COUNTER, 0, [0, 2], jumps, ((0, 1), (2 * jumps, 1)))
        self.check(COUNTER, 0, [0, -1], 59, ((-59, 1), (0, 1)))

    def test_open_ranges(self):
        self.check(CLOCK, 1, [0, 0, 1, 0], 0, ((0, 1), None))
        self.check(CLOCK, 1, [0, 0, -1, 0], 0, (None, (0, 1)))
        self.check(CLOCK, 1, [0, 0, 0, 2], 0, (None, (14, 1)))
        self.check(CLOCK, 1, [3, 0, 0, -1], 0, ((-4, 1), None))
        self.check(CLOCK, 1, [0, 0, 1, 1], 0, (None, None))
        # A bound of one node does not help if another one has none.
        self.check(CLOCK, 1, [0, 0, 0, 1], 1, (None, (10, 1)))
        system = (1, 0, [([], [[1, 0]])], [], [(0, at(3)), (0, interval(None, 1)), (0, interval(2, 5))])
        self.check(system, 0, [0, 1], 0, (None, (5, 1)))
        self.check(system, 0, [0, -1], 0, ((-5, 1), None))
        system = (*system[:4], [(0, (1, [], []))])
        self.check(system, 0, [4, 1], 0, (None, None))
        self.check(system, 0, [4, 0], 0, ((4, 1), (4, 1)))

    def test_fractions(self):
        starts = [(0, polyhedron(1, [[-2, 3], [7, -4]])), (0, polyhedron(1, [[-9, 5], [8, -4]]))]
        system = (1, 0, [([], [[1, 0]])], [], starts)
        self.check(system, 0, [0, 1], 0, ((2, 3), (2, 1)))
        self.check(system, 0, [1, -2], 0, ((-3, 1), (-1, 3)))
        self.check(system, 0, [1, 6], 0, ((5, 1), (13, 1)))
        system = (*system[:4], starts[:1])
        self.check(system, 0, [0, -1], 0, ((-7, 4), (-2, 3)))

    def test_no_variables(self):
        self.check(NO_VARIABLES, 0, [-6], 0, ((-6, 1), (-6, 1)))
        self.check(NO_VARIABLES, 1, [0], 0, None)
        self.check(NO_VARIABLES, 1, [0], 1, ((0, 1), (0, 1)))

    def test_out_of_range(self):
        for system, location, jumps in [
            (TANK, 3, 0), (TANK, -1, 0), (TANK, 8, 1), (STILL, 1, 0), (TANK, 0, -1), (TANK, 2, -5), (STILL, 0, -1),
            (TANK, 3, -1), (COUNTER, 0, 60), (TREE, 0, 5), (TREE, 1, 4), (TREE, 1, 5),
        ]:
            with self.subTest(location=location, jumps=jumps):
                with self.assertRaises(OutOfRange):
                    value_range(system, location, [0] * (system[0] + 1), jumps=jumps)
        self.check(TREE, 0, [0, 1], 4, ((0, 1), (30, 1)))

    def test_as_defined(self):
        rng = Random(311)
        seen = 0
        for _ in range(120):
            system = random_started_system(rng)
            n, many = system[0], len(system[2])
            nodes = all_nodes(system, 1)
            location = rng.randrange(many)
            condition = [rng.randint(-3, 3), *random_vector(rng, n, 3)]
            rows = [conditions_in(node[2]) for node in nodes if node[0] == location]
            least = [slow_least(row, condition) for row in rows]
            greatest = [slow_least(row, [-item for item in condition]) for row in rows]
            expected = None
            if rows:
                expected = (None if None in least else as_tuple(min(least)),
                            None if None in greatest else as_tuple(-min(greatest)))
            if n > 0 or not rows:
                self.check(system, location, condition, 1, expected)
                seen += expected is not None
        self.assertGreater(seen, 40)

    def test_points_of_runs_are_in_the_range(self):
        rng = Random(312)
        for _ in range(60):
            system = random_started_system(rng)
            condition = [rng.randint(-3, 3), *random_vector(rng, system[0], 3)]
            for location, _, region, _, _ in all_nodes(system, 1):
                least, greatest = value_range(system, location, condition, jumps=1)
                for point in generators(region)[0]:
                    value = Fraction(sum(a * b for a, b in zip(condition, point)), point[0])
                    self.assertTrue(least is None or Fraction(*least) <= value)
                    self.assertTrue(greatest is None or value <= Fraction(*greatest))


def as_tuple(value):
    return value.numerator, value.denominator


if __name__ == "__main__":
    unittest.main()
