"""Points 16 and 17: states, steps and runs."""

import copy
import unittest
from fractions import Fraction
from random import Random

from floodmark.errors import BadRun
from floodmark.poly import polyhedron
from floodmark.runs import is_initial, is_state, leads_to, states_of
from tests.checking import ProgramTest
from tests.examples import CLOCK, NO_VARIABLES, STILL, TANK, random_points, random_system
from tests.slow import as_primitive, both_ways, can_hold, value_at


def coordinates(point):
    return [Fraction(item, point[0]) for item in point[1:]]


def slow_is_state(system, location, point):
    locations = system[2]
    return (0 <= location < len(locations)
            and all(value_at(condition, point) >= 0 for condition in locations[location][0]))


def slow_is_wait(system, location, old, new):
    """Return True if some time at some mean of the rates leads from old to new."""
    if not slow_is_state(system, location, old) or not slow_is_state(system, location, new):
        return False
    rates = [coordinates(rate) for rate in system[2][location][1]]
    rows = [[0] + [int(place == other) for other in range(len(rates))] for place in range(len(rates))]
    for place, (low, high) in enumerate(zip(coordinates(old), coordinates(new))):
        rows += both_ways([as_primitive([low - high] + [rate[place] for rate in rates])])
    return can_hold(rows, len(rates) + 1)


def slow_is_jump(system, location, index, old, new):
    source, target, relation = system[3][index]
    pair = [1, *coordinates(old), *coordinates(new)]
    return (source == location and slow_is_state(system, source, old) and slow_is_state(system, target, new)
            and all(sum(a * b for a, b in zip(row, pair)) >= 0 for row in relation))


class StepTest(ProgramTest):

    def check(self, system, state, step, location):
        with self.subTest(state=state, step=step):
            self.assertEqual(self.call(leads_to, system, state, step), (location, step[-1]))

    def check_bad(self, system, state, step):
        with self.subTest(state=state, step=step):
            before = copy.deepcopy((system, state, step))
            with self.assertRaises(BadRun):
                leads_to(system, state, step)
            self.assertEqual((system, state, step), before)

    def check_if(self, leads, system, state, step, location):
        if leads:
            self.check(system, state, step, location)
        else:
            self.check_bad(system, state, step)


class IsStateTest(ProgramTest):

    def check(self, system, state, expected):
        with self.subTest(state=state):
            self.assertIs(self.call(is_state, system, state), expected)

    def test_examples(self):
        self.check(TANK, (0, [1, 10]), True)
        self.check(TANK, (0, [2, 21]), False)
        self.check(TANK, (0, [1, -50]), True)
        self.check(TANK, (1, [1, 2]), True)
        self.check(TANK, (1, [3, 5]), False)
        self.check(TANK, (2, [1, 100]), True)
        self.check(STILL, (0, [1]), True)
        self.check(NO_VARIABLES, (1, [1]), True)

    def test_no_such_location(self):
        for location in (-1, 3, 4, 100, -3):
            self.check(TANK, (location, [1, 5]), False)
        self.check(STILL, (1, [1]), False)

    def test_an_invariant_that_holds_nowhere(self):
        self.check(NO_VARIABLES, (2, [1]), False)
        for point in ([1, 0, 0, 0], [1, 5, 1, 5], [2, 1, 1, 1]):
            self.check(CLOCK, (2, point), False)

    def test_as_defined(self):
        rng = Random(71)
        for _ in range(100):
            system = random_system(rng)
            for point in random_points(rng, system[0], 5):
                for location in range(-1, 3):
                    self.check(system, (location, point), slow_is_state(system, location, point))


class WaitTest(StepTest):

    def test_examples(self):
        self.check(TANK, (0, [1, 0]), ("wait", [1, 10]), 0)
        self.check(TANK, (0, [2, 1]), ("wait", [3, 2]), 0)
        self.check(TANK, (1, [1, 12]), ("wait", [1, 2]), 1)
        self.check_bad(TANK, (0, [1, 0]), ("wait", [1, -1]))
        self.check_bad(TANK, (0, [3, 2]), ("wait", [2, 1]))
        self.check_bad(TANK, (1, [1, 2]), ("wait", [1, 3]))
        self.check_bad(TANK, (2, [1, 2]), ("wait", [1, 3]))

    def test_the_invariant_holds_at_both_ends(self):
        self.check_bad(TANK, (0, [1, 9]), ("wait", [1, 11]))
        self.check_bad(TANK, (0, [1, 11]), ("wait", [1, 12]))
        self.check_bad(TANK, (0, [1, 11]), ("wait", [1, 11]))
        self.check_bad(TANK, (1, [1, 3]), ("wait", [1, 1]))
        self.check_bad(TANK, (1, [1, 1]), ("wait", [1, 1]))

    def test_to_the_same_point(self):
        self.check(TANK, (0, [1, 10]), ("wait", [1, 10]), 0)
        self.check(TANK, (2, [7, 3]), ("wait", [7, 3]), 2)
        self.check(STILL, (0, [1]), ("wait", [1]), 0)
        self.check(NO_VARIABLES, (1, [1]), ("wait", [1]), 1)
        self.check(CLOCK, (1, [1, 2, 3, 4]), ("wait", [1, 2, 3, 4]), 1)

    def test_rates_that_are_0_in_all_variables(self):
        self.check_bad(CLOCK, (1, [1, 2, 3, 4]), ("wait", [1, 2, 3, 5]))
        system = (1, 0, [([], [[1, 0], [1, 3]])], [], [])
        self.check(system, (0, [1, 0]), ("wait", [1, 1]), 0)
        self.check_bad(system, (0, [1, 0]), ("wait", [1, -1]))

    def test_means_of_rates(self):
        # x rises by 1/2 to 2 per unit of the clock.
        start = (0, [1, 5, 0, 0])
        for point in ([1, 5, 2, 1], [1, 5, 1, 2], [1, 5, 3, 3], [3, 15, 2, 3], [1, 5, 5, 10], [2, 10, 10, 5]):
            self.check(CLOCK, start, ("wait", point), 0)
        for point in ([1, 5, 0, 1], [1, 5, 3, 1], [1, 5, 1, 3], [1, 4, 2, 2], [1, 5, -1, -1], [1, 5, 6, 6],
                      [1, 5, 100, 51]):
            self.check_bad(CLOCK, start, ("wait", point))

    def test_no_such_location(self):
        for location in (-1, 3, 50):
            self.check_bad(TANK, (location, [1, 5]), ("wait", [1, 5]))

    def test_an_invariant_that_holds_nowhere(self):
        self.check_bad(NO_VARIABLES, (2, [1]), ("wait", [1]))
        self.check_bad(CLOCK, (2, [1, 1, 1, 1]), ("wait", [1, 1, 1, 1]))

    def test_as_defined(self):
        rng = Random(72)
        seen = {True: 0, False: 0}
        for _ in range(300):
            system = random_system(rng, locations=1, jumps=0)
            old, new = random_points(rng, system[0], 2)
            if rng.random() < 0.7:
                new = moved(rng, old, system[2][0][1])
            expected = slow_is_wait(system, 0, old, new)
            seen[expected] += 1
            self.check_if(expected, system, (0, old), ("wait", new), 0)
        self.assertGreater(min(seen.values()), 60)


def moved(rng, point, rates):
    """Return where some time at some mean of the rates leads to."""
    found = coordinates(point)
    for rate in rates:
        time = Fraction(rng.choice([0, 0, 1, 1, 2, 3]), rng.choice([1, 2]))
        found = [low + time * item for low, item in zip(found, coordinates(rate))]
    return as_primitive([1] + found)


class JumpTest(StepTest):

    def test_examples(self):
        self.check(TANK, (0, [1, 8]), ("jump", 0, [1, 8]), 1)
        self.check(TANK, (0, [2, 19]), ("jump", 0, [2, 19]), 1)
        self.check(TANK, (1, [1, 3]), ("jump", 1, [1, 3]), 0)
        self.check(TANK, (1, [1, 9]), ("jump", 2, [1, 0]), 2)
        self.check_bad(TANK, (0, [1, 8]), ("jump", 0, [1, 9]))
        self.check_bad(TANK, (0, [2, 15]), ("jump", 0, [2, 15]))
        self.check_bad(TANK, (1, [1, 9]), ("jump", 2, [1, 1]))

    def test_the_source(self):
        self.check_bad(TANK, (1, [1, 8]), ("jump", 0, [1, 8]))
        self.check_bad(TANK, (2, [1, 8]), ("jump", 0, [1, 8]))
        self.check_bad(TANK, (0, [1, 3]), ("jump", 1, [1, 3]))

    def test_both_invariants(self):
        self.check_bad(TANK, (0, [1, 11]), ("jump", 0, [1, 11]))
        self.check_bad(TANK, (1, [1, 1]), ("jump", 1, [1, 1]))
        self.check_bad(TANK, (1, [1, 1]), ("jump", 2, [1, 0]))
        free = (1, 0, [([], [[1, 0]]), ([[-2, 1]], [[1, 0]])], [(0, 1, []), (1, 0, [])], [])
        self.check(free, (0, [1, -7]), ("jump", 0, [1, 2]), 1)
        self.check_bad(free, (0, [1, -7]), ("jump", 0, [2, 3]))
        self.check(free, (1, [2, 5]), ("jump", 1, [1, -9]), 0)
        self.check_bad(free, (1, [2, 3]), ("jump", 1, [1, -9]))
        for jump in (0, 1, 2):
            self.check_bad(NO_VARIABLES, (2, [1]), ("jump", jump, [1]))
        self.check_bad(NO_VARIABLES, (0, [1]), ("jump", 2, [1]))
        self.check_bad(CLOCK, (1, [1, 2, 3, 4]), ("jump", 2, [1, 2, 1, 1]))

    def test_no_variables(self):
        self.check(NO_VARIABLES, (0, [1]), ("jump", 0, [1]), 1)
        self.check_bad(NO_VARIABLES, (1, [1]), ("jump", 1, [1]))

    def test_points_with_different_denominators(self):
        point = [2, 6, 1, 1]
        self.check(CLOCK, (0, point), ("jump", 0, [4, 12, 1, 0]), 0)
        self.check_bad(CLOCK, (0, point), ("jump", 0, [4, 12, 2, 0]))
        self.check_bad(CLOCK, (0, point), ("jump", 0, [4, 11, 1, 0]))
        self.check_bad(CLOCK, (0, point), ("jump", 0, [4, 12, 1, 1]))
        near = (1, 0, [([], [[1, 0]])], [(0, 0, [[0, -1, 1]])], [])
        self.check(near, (0, [3, 1]), ("jump", 0, [2, 1]), 0)
        self.check_bad(near, (0, [2, 1]), ("jump", 0, [3, 1]))
        self.check(near, (0, [100, 99]), ("jump", 0, [101, 100]), 0)
        self.check_bad(near, (0, [101, 100]), ("jump", 0, [100, 99]))

    def test_no_such_jump_or_location(self):
        for jump in (-1, -3, 3, 99):
            self.check_bad(TANK, (0, [1, 8]), ("jump", jump, [1, 8]))
            self.check_bad(STILL, (0, [1]), ("jump", jump, [1]))
        for location in (-1, -3, 3, 99):
            self.check_bad(TANK, (location, [1, 8]), ("jump", 0, [1, 8]))

    def test_as_defined(self):
        rng = Random(73)
        seen = {True: 0, False: 0}
        for _ in range(200):
            system = random_system(rng)
            for jump in range(2):
                for old in random_points(rng, system[0], 4):
                    location = rng.choice([0, 1, system[3][jump][0], system[3][jump][0]])
                    new = old if rng.random() < 0.6 else random_points(rng, system[0], 1)[0]
                    expected = slow_is_jump(system, location, jump, old, new)
                    seen[expected] += 1
                    step = ("jump", jump, new)
                    self.check_if(expected, system, (location, old), step, system[3][jump][1])
        self.assertGreater(min(seen.values()), 200)


FIRST = (0, [1, 0])
RUN = [("wait", [1, 9]), ("jump", 0, [1, 9]), ("wait", [1, 3]), ("wait", [1, 3]), ("jump", 1, [1, 3]),
       ("wait", [2, 17]), ("jump", 0, [2, 17]), ("jump", 2, [1, 0])]


class RunTest(ProgramTest):

    def check_bad(self, system, state, run):
        with self.subTest(state=state, run=run), self.assertRaises(BadRun):
            states_of(system, state, run)

    def test_states_of_a_run(self):
        expected = [FIRST, (0, [1, 9]), (1, [1, 9]), (1, [1, 3]), (1, [1, 3]), (0, [1, 3]), (0, [2, 17]),
                    (1, [2, 17]), (2, [1, 0])]
        for many in range(len(RUN) + 1):
            result = self.call(states_of, TANK, FIRST, RUN[:many])
            self.assertIs(type(result), list)
            self.assertEqual(result, expected[:many + 1])

    def test_one_point_in_many_steps(self):
        point = [1, 9]
        run = [("wait", point), ("wait", point), ("jump", 0, point), ("wait", point)]
        result = self.call(states_of, TANK, (0, point), run)
        self.assertEqual(result, [(0, point)] * 3 + [(1, point)] * 2)

    def test_empty_runs(self):
        self.assertEqual(self.call(states_of, TANK, (2, [3, 7]), []), [(2, [3, 7])])
        self.assertEqual(self.call(states_of, STILL, (0, [1]), []), [(0, [1])])
        self.check_bad(TANK, (0, [1, 11]), [])
        self.check_bad(TANK, (3, [1, 1]), [])
        self.check_bad(TANK, (-1, [1, 1]), [])
        self.check_bad(NO_VARIABLES, (2, [1]), [])
        self.check_bad(CLOCK, (2, [1, 1, 1, 1]), [])

    def test_steps_that_do_not_lead_from_the_state(self):
        for place, step in enumerate(RUN):
            self.check_bad(TANK, FIRST, RUN[:place] + [("jump", 99, step[-1])] + RUN[place + 1:])
            self.check_bad(TANK, FIRST, RUN[:place] + [("wait", [1, -1])] + RUN[place + 1:])
        self.check_bad(TANK, FIRST, RUN[1:])
        self.check_bad(TANK, FIRST, RUN[::-1])
        self.check_bad(TANK, FIRST, RUN + [("wait", [1, 1])])
        self.check_bad(TANK, (1, [1, 12]), RUN)
        self.check_bad(TANK, (0, [1, 11]), [("wait", [1, 10])])

    def test_a_parameter_stays(self):
        run = [("wait", [1, 4, 3, 3]), ("jump", 0, [2, 8, 3, 0]), ("wait", [1, 4, 2, 1]), ("jump", 0, [1, 4, 1, 0])]
        result = self.call(states_of, CLOCK, (0, [1, 4, 0, 0]), run)
        self.assertEqual([state[1][1] * 4 for state in result], [16 * state[1][0] for state in result])
        self.check_bad(CLOCK, (0, [1, 4, 0, 0]), run[:1] + [("jump", 0, [2, 7, 3, 0])])


class IsInitialTest(ProgramTest):

    def check(self, system, state, expected):
        with self.subTest(state=state):
            self.assertIs(self.call(is_initial, system, state), expected)

    def test_examples(self):
        self.check(TANK, (0, [1, 0]), True)
        self.check(TANK, (0, [3, 2]), True)
        self.check(TANK, (0, [3, 4]), False)
        self.check(TANK, (1, [1, 1]), False)
        self.check(TANK, (2, [1, 1]), False)
        self.check(CLOCK, (0, [1, 3, 0, 0]), True)
        self.check(CLOCK, (0, [1, 6, 0, 0]), False)
        self.check(CLOCK, (1, [1, 2, 9, -9]), True)
        self.check(CLOCK, (1, [1, 3, 9, -9]), False)

    def test_the_invariant_holds_as_well(self):
        start = polyhedron(1, [[20, -1]])
        system = (1, 0, [([[10, -1]], [[1, 0]]), ([[-1, 0]], [[1, 0]])], [], [(0, start), (1, start)])
        self.check(system, (0, [1, 10]), True)
        self.check(system, (0, [1, 15]), False)
        self.check(system, (0, [1, 25]), False)
        self.check(system, (1, [1, 5]), False)

    def test_one_of_several_starts(self):
        starts = [(1, polyhedron(1, [], [[-1, 1]])), (0, polyhedron(1, [], [[-2, 1]])),
                  (1, polyhedron(1, [], [[-3, 1]]))]
        system = (1, 0, [([], [[1, 0]]), ([], [[1, 0]])], [], starts)
        for location in (0, 1):
            for value in range(5):
                self.check(system, (location, [1, value]), (location, value) in [(1, 1), (0, 2), (1, 3)])

    def test_no_starts_and_no_such_location(self):
        self.check(STILL, (0, [1]), False)
        self.check(NO_VARIABLES, (0, [1]), True)
        self.check(NO_VARIABLES, (1, [1]), False)
        self.check(NO_VARIABLES, (2, [1]), False)
        for location in (-1, -3, 3, 8):
            self.check(TANK, (location, [1, 0]), False)


if __name__ == "__main__":
    unittest.main()
