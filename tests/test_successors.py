"""Points 18 and 19: where waits and jumps lead to, and where they come from."""

import unittest
from random import Random

from floodmark.errors import BadRun, OutOfRange
from floodmark.poly import generators, has_point, polyhedron, spanned
from floodmark.runs import leads_to
from floodmark.successors import jump_backward, jump_forward, wait_backward, wait_forward
from tests.checking import ProgramTest
from tests.examples import (CLOCK, NO_VARIABLES, STILL, TANK, kept, random_points, random_region,
                            random_system, same)
from tests.shapes import box
from tests.slow import as_primitive, both_ways, conditions_in, moved_back, turned, wide, without_last

ANYWHERE = polyhedron(1, [])


def interval(low, high):
    return polyhedron(1, box([(low, high)]))


def slow_directions(system, location):
    return [as_primitive([0, *rate[1:]]) for rate in system[2][location][1]]


def slow_wait(system, location, region, directions):
    """Return the points y within the invariant for which y minus some directions is, too."""
    n, many = system[0], len(directions)
    invariant = system[2][location][0]
    rows = [moved_back(row, directions) for row in conditions_in(region) + invariant]
    rows += [wide(row, 0, many) for row in invariant]
    rows += [[0] * (n + 1) + [int(place == other) for other in range(many)] for place in range(many)]
    return polyhedron(n, without_last(rows, many))


def slow_pairs(system, jump):
    """Return what holds for old values followed by new ones if the jump leads from one to the other."""
    n, _, locations, jumps, _ = system
    source, target, relation = jumps[jump]
    return ([wide(row, 0, n) for row in locations[source][0]] + relation
            + [wide(row, n, 0) for row in locations[target][0]])


def is_step(system, state, step):
    try:
        leads_to(system, state, step)
    except BadRun:
        return False
    return True


class WaitTest(ProgramTest):

    def check(self, system, location, region, forward, backward):
        with self.subTest(system=system, location=location, region=region):
            self.assertEqual(self.call(wait_forward, system, location, region), forward)
            self.assertEqual(self.call(wait_backward, system, location, region), backward)

    def test_examples(self):
        self.check(TANK, 0, interval(0, 1), interval(0, 10), interval(None, 1))
        self.check(TANK, 0, interval(10, 50), interval(10, 10), interval(None, 10))
        self.check(TANK, 1, interval(4, 5), interval(2, 5), interval(4, None))
        self.check(TANK, 1, interval(None, 2), interval(2, 2), interval(2, None))
        self.check(TANK, 2, interval(4, 5), interval(4, 5), interval(4, 5))

    def test_no_common_point_with_the_invariant(self):
        self.check(TANK, 0, interval(11, None), None, None)
        self.check(TANK, 1, interval(None, 1), None, None)
        self.check(NO_VARIABLES, 2, (0, [], []), None, None)
        for region in (polyhedron(3, []), spanned(3, [[1, 0, 1, 0]])):
            self.check(CLOCK, 2, region, None, None)

    def test_no_variables(self):
        self.check(STILL, 0, (0, [], []), (0, [], []), (0, [], []))
        self.check(NO_VARIABLES, 1, (0, [], []), (0, [], []), (0, [], []))

    def test_rates_that_are_0_in_all_variables(self):
        region = polyhedron(3, box([(1, 2), (None, 4), (None, None)]))
        self.check(CLOCK, 1, region, region, region)
        system = (1, 0, [([], [[1, 0], [1, 1], [1, 0]])], [], [])
        self.check(system, 0, interval(3, 3), interval(3, None), interval(None, 3))

    def test_parameters_and_means_of_rates(self):
        start = polyhedron(3, box([(1, 5), (0, 0), (0, 0)]))
        cone = [[0, 0, 2, -1], [0, 0, -1, 2], [0, 1, -1, 0]]
        bounds = box([(1, 5), (None, None), (None, None)])
        self.check(CLOCK, 0, start, polyhedron(3, cone + bounds),
                   polyhedron(3, [[0, 0, -2, 1], [0, 0, 1, -2]] + bounds))

    def test_polyhedra_with_lines(self):
        up = (2, 0, [([[5, 0, -1]], [[1, 1, 1]])], [], [])
        strip = polyhedron(2, box([(None, None), (0, 3)]))
        self.check(up, 0, strip, polyhedron(2, box([(None, None), (0, 5)])),
                   polyhedron(2, box([(None, None), (None, 3)])))
        self.check(up, 0, (2, [], []), polyhedron(2, [[5, 0, -1]]), polyhedron(2, [[5, 0, -1]]))
        along = (2, 0, [([], [[1, 1, 0], [1, -1, 0]])], [], [])
        self.check(along, 0, strip, strip, strip)
        self.check(along, 0, spanned(2, [[1, 7, 2]]), polyhedron(2, [], [[-2, 0, 1]]),
                   polyhedron(2, [], [[-2, 0, 1]]))

    def test_the_invariant_cuts_before_and_after(self):
        # From (0, 0) to (2, 0), only what has x at least 1 rises, and only up to y = x.
        system = (2, 0, [([[-1, 1, 0], [0, 1, -1]], [[1, 0, 1]])], [], [])
        region = polyhedron(2, box([(0, 2), (0, 0)]))
        self.check(system, 0, region, polyhedron(2, box([(1, 2), (0, None)]) + [[0, 1, -1]]),
                   polyhedron(2, box([(1, 2), (None, 0)])))

    def test_no_such_location(self):
        for system, location, region in [(TANK, 3, ANYWHERE), (TANK, -1, ANYWHERE), (TANK, 99, interval(50, 60)),
                                         (STILL, 1, (0, [], [])), (STILL, -1, (0, [], []))]:
            with self.subTest(location=location):
                with self.assertRaises(OutOfRange):
                    wait_forward(system, location, region)
                with self.assertRaises(OutOfRange):
                    wait_backward(system, location, region)

    def test_as_defined(self):
        rng = Random(81)
        seen = 0
        for _ in range(250):
            system = random_system(rng, locations=1, jumps=0)
            region = random_region(rng, system[0])
            directions = slow_directions(system, 0)
            negatives = [[-item for item in direction] for direction in directions]
            forward = slow_wait(system, 0, region, directions)
            self.check(system, 0, region, forward, slow_wait(system, 0, region, negatives))
            seen += forward is not None
        self.assertGreater(seen, 150)

    def test_as_steps_say(self):
        rng = Random(82)
        seen = {True: 0, False: 0}
        for _ in range(150):
            system = random_system(rng, locations=1, jumps=0)
            for old, new in zip(random_points(rng, system[0], 4), random_points(rng, system[0], 4)):
                expected = is_step(system, (0, old), ("wait", new))
                forward = wait_forward(system, 0, spanned(system[0], [old]))
                backward = wait_backward(system, 0, spanned(system[0], [new]))
                self.assertEqual(forward is not None and has_point(forward, new), expected)
                self.assertEqual(backward is not None and has_point(backward, old), expected)
                seen[expected] += 1
        self.assertGreater(min(seen.values()), 60)


class JumpTest(ProgramTest):

    def check(self, system, jump, region, forward, backward):
        with self.subTest(system=system, jump=jump, region=region):
            self.assertEqual(self.call(jump_forward, system, jump, region), forward)
            self.assertEqual(self.call(jump_backward, system, jump, region), backward)

    def test_examples(self):
        self.check(TANK, 0, interval(0, 9), interval(8, 9), interval(8, 9))
        self.check(TANK, 0, ANYWHERE, interval(8, 10), interval(8, 10))
        self.check(TANK, 1, interval(None, 9), interval(2, 3), interval(2, 3))
        self.check(TANK, 2, interval(5, 7), interval(0, 0), None)
        self.check(TANK, 2, interval(-1, 7), interval(0, 0), interval(2, None))

    def test_none(self):
        self.check(TANK, 0, interval(None, 7), None, None)
        self.check(TANK, 2, interval(0, 1), None, interval(2, None))
        self.check(TANK, 2, interval(3, 4), interval(0, 0), None)

    def test_both_invariants(self):
        system = (1, 0, [([[0, 1]], [[1, 0]]), ([[5, -1]], [[1, 0]])], [(0, 1, [[-1, -1, 1]])], [])
        # The new value is at least 1 above the old one, which is at least 0, and at most 5.
        self.check(system, 0, interval(-9, 3), interval(1, 5), interval(0, 2))
        self.check(system, 0, ANYWHERE, interval(1, 5), interval(0, 4))
        self.check(system, 0, interval(5, 9), None, interval(0, 4))
        self.check(system, 0, interval(-9, 0), interval(1, 5), None)

    def test_invariants_and_relations_that_hold_nowhere(self):
        self.check(CLOCK, 2, polyhedron(3, []), None, None)
        self.check(NO_VARIABLES, 2, (0, [], []), None, None)
        self.check(NO_VARIABLES, 1, (0, [], []), None, None)
        nowhere = (1, 0, [([[-1, 0]], [[1, 0]]), ([], [[1, 0]])], [(0, 1, []), (1, 0, []), (1, 1, [])], [])
        self.check(nowhere, 0, ANYWHERE, None, None)
        self.check(nowhere, 1, ANYWHERE, None, None)
        self.check(nowhere, 2, interval(3, 3), ANYWHERE, ANYWHERE)

    def test_no_variables(self):
        self.check(NO_VARIABLES, 0, (0, [], []), (0, [], []), (0, [], []))

    def test_parameters_stay(self):
        region = polyhedron(3, box([(2, 3), (1, 2), (None, 7)]))
        # x is halved, the clock is 0 after the jump, and any value was possible before.
        forward = polyhedron(3, [[-2, 1, 0, 0], [3, -1, 0, 0], [-1, 0, 2, 0], [1, 0, -1, 0]], [[0, 0, 0, 1]])
        backward = polyhedron(3, [[-2, 1, 0, 0], [3, -1, 0, 0], [-2, 0, 1, 0], [0, 1, -1, 0]])
        self.check(CLOCK, 0, region, forward, backward)

    def test_polyhedra_with_lines(self):
        swap = (2, 0, [([], [[1, 0, 0]])], [(0, 0, both_ways([[0, 1, 0, 0, -1], [0, 0, 1, -1, 0]]))], [])
        strip = polyhedron(2, box([(None, None), (0, 2)]))
        turned_strip = polyhedron(2, box([(0, 2), (None, None)]))
        self.check(swap, 0, strip, turned_strip, turned_strip)
        self.check(swap, 0, (2, [], []), (2, [], []), (2, [], []))
        free = (2, 0, [([], [[1, 0, 0]])], [(0, 0, [])], [])
        self.check(free, 0, strip, (2, [], []), (2, [], []))

    def test_no_such_jump(self):
        for system, jump, region in [(TANK, 3, ANYWHERE), (TANK, -1, ANYWHERE), (TANK, 24, interval(50, 60)),
                                     (STILL, 0, (0, [], [])), (STILL, -1, (0, [], []))]:
            with self.subTest(jump=jump):
                with self.assertRaises(OutOfRange):
                    jump_forward(system, jump, region)
                with self.assertRaises(OutOfRange):
                    jump_backward(system, jump, region)

    def test_many_conditions(self):
        rows = kept(3, 1) + same(3, 1) + [[6 + place, 1, 1, 1, 1, 1, 1] for place in range(18)]
        system = (3, 1, [(box([(-1, 1)] * 3), [[1, 0, 0, 0]])], [(0, 0, rows)], [])
        cube = polyhedron(3, box([(-1, 1)] * 3))
        self.check(system, 0, polyhedron(3, []), cube, cube)

    def test_as_defined(self):
        rng = Random(83)
        seen = 0
        for _ in range(200):
            system = random_system(rng)
            n = system[0]
            region = random_region(rng, n)
            old = [wide(row, 0, n) for row in conditions_in(region)]
            new = [wide(row, n, 0) for row in conditions_in(region)]
            for jump in range(2):
                pairs = slow_pairs(system, jump)
                forward = polyhedron(n, without_last(turned(pairs + old, n), n))
                self.check(system, jump, region, forward, polyhedron(n, without_last(pairs + new, n)))
                seen += forward is not None
        self.assertGreater(seen, 200)

    def test_as_steps_say(self):
        rng = Random(84)
        seen = {True: 0, False: 0}
        for _ in range(150):
            system = random_system(rng)
            source = system[3][0][0]
            for old, new in zip(random_points(rng, system[0], 4), random_points(rng, system[0], 4)):
                new = rng.choice([old, new])
                expected = is_step(system, (source, old), ("jump", 0, new))
                forward = jump_forward(system, 0, spanned(system[0], [old]))
                backward = jump_backward(system, 0, spanned(system[0], [new]))
                self.assertEqual(forward is not None and has_point(forward, new), expected)
                self.assertEqual(backward is not None and has_point(backward, old), expected)
                seen[expected] += 1
        self.assertGreater(min(seen.values()), 60)

    def test_each_corner_comes_from_a_point_of_the_region(self):
        rng = Random(85)
        for _ in range(60):
            system = random_system(rng)
            region = random_region(rng, system[0])
            source, target, _ = system[3][0]
            forward = jump_forward(system, 0, region)
            for new in generators(forward)[0] if forward else []:
                before = jump_backward(system, 0, spanned(system[0], [new]))
                rows = conditions_in(before) + conditions_in(region)
                old = generators(polyhedron(system[0], rows))[0][0]
                self.assertEqual(leads_to(system, (source, old), ("jump", 0, new)), (target, new))


if __name__ == "__main__":
    unittest.main()
