"""Points 13 to 15: systems, which ones are valid, and what is at their locations and jumps."""

import unittest
from random import Random

from floodmark.errors import BadSystem, OutOfRange
from floodmark.poly import polyhedron
from floodmark.system import check_system, directions_of, invariant_of, relation_of
from tests.checking import ProgramTest
from tests.examples import CLOCK, NO_VARIABLES, STILL, TANK, VALID, kept, random_system
from tests.shapes import box, unit
from tests.slow import as_primitive, slow_polyhedron

HIGH = 1000000
ANYWHERE = polyhedron(1, [])


def changed(system, **parts):
    """Return a system with other parts."""
    names = ("n", "fixed", "locations", "jumps", "starts")
    values = dict(zip(names, system))
    values.update(parts)
    return tuple(values[name] for name in names)


def one_location(n, fixed, invariant, rates):
    return n, fixed, [(invariant, rates)], [], []


def one_jump(relation, source=0, target=0, n=1, fixed=0):
    return n, fixed, [([], [[1] + [0] * n])], [(source, target, relation)], []


def one_start(location, region, n=1):
    return n, 0, [([], [[1] + [0] * n])], [], [(location, region)]


class CheckSystemTest(ProgramTest):

    def check_valid(self, *systems):
        for system in systems:
            with self.subTest(system=system):
                self.assertIsNone(self.call(check_system, system))

    def check_bad(self, *systems):
        for system in systems:
            with self.subTest(system=system), self.assertRaises(BadSystem):
                check_system(system)

    def test_examples(self):
        self.check_valid(*VALID.values())
        rng = Random(61)
        self.check_valid(*[random_system(rng) for _ in range(50)])

    def test_numbers_of_variables(self):
        for n in range(4):
            self.check_valid(one_location(n, 0, [], [[1] + [0] * n]))
        for n in (-1, -7, 4, 5, 8, 10 ** 30):
            width = n if 0 <= n <= 8 else 0
            self.check_bad(one_location(n, 0, [], [[1] + [0] * width]))

    def test_numbers_of_parameters(self):
        for n in range(4):
            for fixed in range(n + 1):
                self.check_valid(one_location(n, fixed, [], [[1] + [0] * n]))
            for fixed in (-1, -9, n + 1, n + 2, 10 ** 30):
                self.check_bad(one_location(n, fixed, [], [[1] + [0] * n]))

    def test_numbers_of_locations(self):
        location = ([], [[1, 0]])
        self.check_valid((1, 0, [location] * 8, [], []))
        self.check_bad((1, 0, [], [], []), (1, 0, [location] * 9, [], []))

    def test_numbers_of_jumps_and_starts(self):
        self.check_valid(changed(one_jump([]), jumps=[(0, 0, [])] * 24))
        self.check_bad(changed(one_jump([]), jumps=[(0, 0, [])] * 25))
        self.check_valid(changed(one_jump([]), starts=[(0, ANYWHERE)] * 8))
        self.check_bad(changed(one_jump([]), starts=[(0, ANYWHERE)] * 9))

    def test_numbers_of_conditions(self):
        self.check_valid(one_location(1, 0, [[0, 1]] * 12, [[1, 0]]))
        self.check_bad(one_location(1, 0, [[0, 1]] * 13, [[1, 0]]))
        self.check_valid(one_jump([[0, 1, 0]] * 24))
        self.check_bad(one_jump([[0, 1, 0]] * 25))
        self.check_valid(one_jump(kept(1, 1) + [[0, 1, 0]] * 22, fixed=1))
        self.check_bad(one_jump(kept(1, 1) + [[0, 1, 0]] * 23, fixed=1))

    def test_numbers_of_rates(self):
        self.check_valid(one_location(1, 0, [], [[1, 5]] * 8))
        self.check_bad(one_location(1, 0, [], [[1, 5]] * 9), one_location(1, 0, [], []))

    def test_lengths_of_conditions(self):
        for invariant in ([[]], [[0]], [[0, 1, 0]], [[0, 1], [1]], [[0, 1], [0, 1, 0], [0, 1]]):
            self.check_bad(one_location(1, 0, invariant, [[1, 0]]))
        for relation in ([[]], [[0, 1]], [[0, 1, 0, 0]], [[0, 1, 0], [0]]):
            self.check_bad(one_jump(relation))
        self.check_valid(one_location(0, 0, [[1]], [[1]]), one_jump([[1]], n=0))
        self.check_bad(one_location(0, 0, [[]], [[1]]), one_jump([[1, 0]], n=0))

    def test_rates_are_points(self):
        self.check_valid(one_location(2, 0, [], [[1, 0, 0], [3, 1, 0], [2, 4, -1], [7, 0, -5]]))
        for rate in ([], [1], [1, 0], [1, 0, 0, 0], [0, 1, 0], [0, 0, 0], [-1, 1, 0], [2, 0, 0],
                     [2, 4, -6], [3, 0, 3], [-1, 0, 0]):
            self.check_bad(one_location(2, 0, [], [rate]), one_location(2, 0, [], [[1, 0, 0], rate]))
        self.check_bad(one_location(0, 0, [], [[2]]), one_location(0, 0, [], [[0]]),
                       one_location(0, 0, [], [[]]))

    def test_rates_of_parameters(self):
        self.check_valid(one_location(3, 1, [], [[1, 0, 2, 3]]), one_location(3, 2, [], [[1, 0, 0, 3]]),
                         one_location(3, 3, [], [[1, 0, 0, 0]]))
        self.check_bad(one_location(3, 1, [], [[1, 1, 0, 0]]), one_location(3, 2, [], [[1, 0, 2, 3]]),
                       one_location(3, 3, [], [[1, 0, 0, -1]]),
                       one_location(3, 1, [], [[1, 0, 2, 3], [HIGH, -1, 0, 0]]))

    def test_bounds_of_integers(self):
        for item in (HIGH, -HIGH):
            self.check_valid(one_location(1, 0, [[item, item]], [[1, item]]), one_jump([[item] * 3]))
        self.check_valid(one_location(1, 0, [], [[HIGH, 1]]))
        for item in (HIGH + 1, -HIGH - 1, 10 ** 50):
            self.check_bad(one_location(1, 0, [[item, 0]], [[1, 0]]), one_location(1, 0, [[0, item]], [[1, 0]]),
                           one_location(1, 0, [], [[1, item]]))
            for place in range(3):
                self.check_bad(one_jump([unit(3, place, item)]))
        self.check_bad(one_location(1, 0, [], [[HIGH + 1, 1]]))

    def test_locations_of_jumps(self):
        self.check_valid(changed(TANK, jumps=[(2, 0, []), (1, 1, [])]))
        for source, target in [(-1, 0), (0, -1), (3, 0), (0, 3), (3, 3), (10 ** 20, 0)]:
            self.check_bad(changed(TANK, jumps=[(source, target, [])]),
                           changed(TANK, jumps=[(0, 0, []), (source, target, [])]))

    def test_relations_begin_with_the_parameters(self):
        first, back = [0, -1, 0, 1, 0], [0, 1, 0, -1, 0]
        second, back_too = [0, 0, -1, 0, 1], [0, 0, 1, 0, -1]
        more = [1, 2, 3, 4, 5]
        self.check_valid(one_jump([], n=2), one_jump([more], n=2),
                         one_jump([first, back], n=2, fixed=1), one_jump([first, back, more], n=2, fixed=1),
                         one_jump([first, back, second, back_too], n=2, fixed=2),
                         one_jump([first, back, second, back_too, more], n=2, fixed=2))
        for relation in ([], [first], [back, first], [more, first, back], [first, more, back],
                         [second, back_too], [[0, -2, 0, 2, 0], [0, 2, 0, -2, 0]], [first, first]):
            self.check_bad(one_jump(relation, n=2, fixed=1), one_jump(relation, n=2, fixed=2))
        for relation in ([first, back], [second, back_too, first, back], [first, second, back, back_too],
                         [first, back, second], [first, back, more, second, back_too]):
            self.check_bad(one_jump(relation, n=2, fixed=2))

    def test_starts(self):
        high = 10 ** 30
        self.check_valid(one_start(0, ANYWHERE), one_start(0, polyhedron(1, [[-high, 1]])),
                         one_start(0, (0, [], []), n=0))
        self.check_bad(one_start(0, None), one_start(1, ANYWHERE), one_start(-1, ANYWHERE),
                       one_start(0, (0, [], [])), one_start(0, (2, [], [])), one_start(0, (8, [], [])),
                       changed(TANK, starts=[(0, ANYWHERE), (2, None)]),
                       changed(TANK, starts=[(0, ANYWHERE), (3, ANYWHERE)]))

    def test_one_fault_in_a_later_part(self):
        _, _, locations, jumps, starts = CLOCK
        self.check_bad(changed(CLOCK, locations=locations[:2] + [([[0, 0, 0]], [[1, 0, 0, 0]])]),
                       changed(CLOCK, locations=locations[:2] + [([], [])]),
                       changed(CLOCK, locations=locations[:2]),
                       changed(CLOCK, jumps=jumps + [(0, 1, [])]),
                       changed(CLOCK, starts=starts + [(2, ANYWHERE)]),
                       changed(CLOCK, n=2), changed(CLOCK, fixed=2))
        self.check_valid(changed(CLOCK, fixed=0))


class InvariantTest(ProgramTest):

    def test_examples(self):
        self.assertEqual(self.call(invariant_of, TANK, 0), (1, [], [[10, -1]]))
        self.assertEqual(self.call(invariant_of, TANK, 1), (1, [], [[-2, 1]]))
        self.assertEqual(self.call(invariant_of, TANK, 2), (1, [], []))
        self.assertEqual(self.call(invariant_of, CLOCK, 0), polyhedron(3, CLOCK[2][0][0]))
        self.assertEqual(self.call(invariant_of, STILL, 0), (0, [], []))
        self.assertEqual(self.call(invariant_of, NO_VARIABLES, 1), (0, [], []))

    def test_an_invariant_that_holds_nowhere(self):
        self.assertIsNone(self.call(invariant_of, CLOCK, 2))
        self.assertIsNone(self.call(invariant_of, NO_VARIABLES, 2))

    def test_no_such_location(self):
        for system, location in [(TANK, 3), (TANK, -1), (STILL, 1), (STILL, -1), (CLOCK, 100)]:
            with self.subTest(location=location), self.assertRaises(OutOfRange):
                invariant_of(system, location)

    def test_as_defined(self):
        rng = Random(62)
        for _ in range(60):
            system = random_system(rng)
            for location, (invariant, _) in enumerate(system[2]):
                expected = slow_polyhedron(system[0], invariant)
                self.assertEqual(self.call(invariant_of, system, location), expected)


class DirectionsTest(ProgramTest):

    def check(self, n, rates, expected):
        with self.subTest(rates=rates):
            system = one_location(n, 0, [], rates)
            self.assertIsNone(check_system(system))
            self.assertEqual(self.call(directions_of, system, 0), expected)

    def test_examples(self):
        self.check(1, [[1, 3]], [[0, 1]])
        self.check(2, [[2, 4, -1], [3, 6, 10]], [[0, 4, -1], [0, 3, 5]])
        self.check(2, [[3, 2, -4]], [[0, 1, -2]])
        self.check(3, [[7, 0, -5, 0], [1, 10, 20, 30]], [[0, 0, -1, 0], [0, 1, 2, 3]])

    def test_equal_ones_stay(self):
        self.check(1, [[1, 1], [1, 2], [2, 1], [1, -1]], [[0, 1], [0, 1], [0, 1], [0, -1]])

    def test_rates_that_are_0_in_all_variables(self):
        self.check(0, [[1]], [])
        self.check(0, [[1], [1]], [])
        self.check(2, [[1, 0, 0]], [])
        self.check(2, [[1, 0, 0], [1, 0, 5], [1, 0, 0]], [[0, 0, 1]])
        self.assertEqual(self.call(directions_of, CLOCK, 1), [])

    def test_no_such_location(self):
        for system, location in [(TANK, 3), (TANK, -1), (STILL, 1), (STILL, -1)]:
            with self.subTest(location=location), self.assertRaises(OutOfRange):
                directions_of(system, location)

    def test_as_defined(self):
        rng = Random(63)
        for _ in range(60):
            system = random_system(rng)
            for location, (_, rates) in enumerate(system[2]):
                expected = [as_primitive([0, *rate[1:]]) for rate in rates if any(rate[1:])]
                self.assertEqual(self.call(directions_of, system, location), expected)


class RelationTest(ProgramTest):

    def test_examples(self):
        self.assertEqual(self.call(relation_of, TANK, 0), polyhedron(2, [[-8, 1, 0]], [[0, 1, -1]]))
        self.assertEqual(self.call(relation_of, TANK, 2), (2, [[0, 0, 1]], []))
        self.assertEqual(self.call(relation_of, NO_VARIABLES, 0), (0, [], []))
        self.assertEqual(self.call(relation_of, one_jump([], n=3), 0), (6, [], []))
        # The equations are those of the parameters, with the old value in front.
        equal = [[0, 1, 0, 0, -1, 0, 0], [0, 0, 1, 0, 0, -1, 0], [0, 0, 0, 1, 0, 0, -1]]
        self.assertEqual(self.call(relation_of, one_jump(kept(3, 3), n=3, fixed=3), 0), (6, equal, []))

    def test_a_relation_that_holds_nowhere(self):
        self.assertIsNone(self.call(relation_of, NO_VARIABLES, 1))
        self.assertIsNone(self.call(relation_of, one_jump([[-1, 1, 0], [0, -1, 0]]), 0))

    def test_no_such_jump(self):
        for system, jump in [(TANK, 3), (TANK, -1), (STILL, 0), (STILL, -1), (CLOCK, 50)]:
            with self.subTest(jump=jump), self.assertRaises(OutOfRange):
                relation_of(system, jump)

    def test_many_conditions(self):
        rows = box([(-1, 1)] * 6) + [[6 + place, 1, 1, 1, 1, 1, 1] for place in range(12)]
        system = one_jump(rows, n=3)
        self.assertIsNone(check_system(system))
        self.assertEqual(self.call(relation_of, system, 0), (6, [], sorted(rows[:12])))

    def test_as_defined(self):
        rng = Random(64)
        for _ in range(60):
            system = random_system(rng)
            for jump, (_, _, relation) in enumerate(system[3]):
                if len(relation) < 6:
                    expected = slow_polyhedron(2 * system[0], relation)
                    self.assertEqual(self.call(relation_of, system, jump), expected)


if __name__ == "__main__":
    unittest.main()
