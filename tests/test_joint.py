"""Point 32: two systems that run at the same time."""

import unittest
from itertools import product as pairs
from random import Random

from floodmark.errors import OutOfRange
from floodmark.joint import joint_system
from floodmark.poly import generators, has_point, meet, polyhedron, spanned
from floodmark.search import search
from floodmark.successors import jump_forward, wait_forward
from floodmark.system import check_system, invariant_of
from tests.checking import ProgramTest
from tests.examples import NO_VARIABLES, STILL, TANK, kept, random_started_system, same
from tests.searches import NO_POINT, at, counter, interval
from tests.proofs import LAMP
from tests.shapes import box
from tests.slow import as_primitive, both_ways
from tests.slow_joint import Slow

# A parameter p, and a level x that falls from p to 0; a jump lets it begin anew.
DRAIN = (
    2, 1,
    [([[0, 0, 1], [0, 1, -1]], [[3, 0, -2]])],
    [(0, 0, [*kept(2, 1), [0, 0, -1, 0, 0], [0, -1, 0, 0, 1]])],
    [(0, polyhedron(2, box([(1, 4), (None, None)]), [[0, 1, -1]]))],
)

# A parameter alone, with two locations.
CHOICE = (
    1, 1,
    [([], [[1, 0]]), ([[7, -1]], [[1, 0], [1, 0]])],
    [(0, 1, [*kept(1, 1), [-3, 1, 0]])],
    [(0, interval(2, 9))],
)


def moving(n, rates):
    return n, 0, [([], rates)], [], []


class JointTest(ProgramTest):

    def joined(self, first, second):
        """Return the joint system, which is valid and as it is defined."""
        system = self.call(joint_system, first, second)
        self.assertIsNone(check_system(system))
        self.assertEqual(system, Slow(first, second).system())
        self.assertEqual([type(part) for part in system], [int, int, list, list, list])
        return system

    def refused(self, first, second):
        for one, other in ((first, second), (second, first)):
            with self.assertRaises(OutOfRange):
                joint_system(one, other)

    def test_an_example(self):
        lamp = (*LAMP[:3], [(0, 1, [[-8, 1, 0], *same(1)]), (1, 0, [[-2, 1, 1]])], LAMP[4])
        system = self.joined((*TANK[:2], TANK[2][:1], [(0, 0, [[-9, 1, 0], [-1, 0, 2]])], TANK[4]), lamp)
        self.assertEqual(system, (
            2, 0,
            [
                ([[10, -1, 0], [10, 0, -1]], [[1, 1, 1], [1, 2, 1]]),
                ([[10, -1, 0]], [[1, 1, 0], [1, 2, 0]]),
            ],
            [
                (0, 0, [[-9, 1, 0, 0, 0], [-1, 0, 0, 2, 0], [0, 0, -1, 0, 1], [0, 0, 1, 0, -1]]),
                (1, 1, [[-9, 1, 0, 0, 0], [-1, 0, 0, 2, 0], [0, 0, -1, 0, 1], [0, 0, 1, 0, -1]]),
                (0, 1, [[-8, 0, 1, 0, 0], [0, 0, -1, 0, 1], [0, 0, 1, 0, -1], [0, -1, 0, 1, 0], [0, 1, 0, -1, 0]]),
                (1, 0, [[-2, 0, 1, 0, 1], [0, -1, 0, 1, 0], [0, 1, 0, -1, 0]]),
            ],
            [(0, polyhedron(2, box([(0, 1), (0, 1)])))],
        ))

    def test_parameters_of_both_systems(self):
        # The parameters of both come first, then the level of the first one.
        system = self.joined(DRAIN, CHOICE)
        stay = kept(3, 2)
        self.assertEqual(system, (
            3, 2,
            [
                ([[0, 0, 0, 1], [0, 1, 0, -1]], [[3, 0, 0, -2]]),
                ([[0, 0, 0, 1], [0, 1, 0, -1], [7, 0, -1, 0]], [[3, 0, 0, -2], [3, 0, 0, -2]]),
            ],
            [
                (0, 0, [*stay, [0, 0, 0, -1, 0, 0, 0], [0, -1, 0, 0, 0, 0, 1]]),
                (1, 1, [*stay, [0, 0, 0, -1, 0, 0, 0], [0, -1, 0, 0, 0, 0, 1]]),
                (0, 1, [*stay, [-3, 0, 1, 0, 0, 0, 0], [0, 0, 0, -1, 0, 0, 1], [0, 0, 0, 1, 0, 0, -1]]),
            ],
            [(0, polyhedron(3, [[-1, 1, 0, 0], [4, -1, 0, 0], [-2, 0, 1, 0], [9, 0, -1, 0]], [[0, 1, 0, -1]]))],
        ))

    def test_the_order_of_the_variables_of_the_second_system(self):
        system = self.joined(CHOICE, DRAIN)
        stay = kept(3, 2)
        self.assertEqual(system[:2], (3, 2))
        self.assertEqual(system[2], [
            ([[0, 0, 0, 1], [0, 0, 1, -1]], [[3, 0, 0, -2]]),
            ([[7, -1, 0, 0], [0, 0, 0, 1], [0, 0, 1, -1]], [[3, 0, 0, -2], [3, 0, 0, -2]]),
        ])
        self.assertEqual(system[3], [
            (0, 1, [*stay, [-3, 1, 0, 0, 0, 0, 0], [0, 0, 0, -1, 0, 0, 1], [0, 0, 0, 1, 0, 0, -1]]),
            (0, 0, [*stay, [0, 0, 0, -1, 0, 0, 0], [0, 0, -1, 0, 0, 0, 1]]),
            (1, 1, [*stay, [0, 0, 0, -1, 0, 0, 0], [0, 0, -1, 0, 0, 0, 1]]),
        ])
        self.assertEqual(system[4], [
            (0, polyhedron(3, [[-2, 1, 0, 0], [9, -1, 0, 0], [-1, 0, 1, 0], [4, 0, -1, 0]], [[0, 0, 1, -1]]))])
        # A parameter of the second system stands before the other variable of the first one.
        self.assertEqual(self.joined(TANK, CHOICE)[2][0], ([[10, 0, -1]], [[1, 0, 1], [1, 0, 2]]))
        self.assertEqual(self.joined(TANK, CHOICE)[3][0], (0, 2, [
            *kept(2, 1), [-8, 0, 1, 0, 0], [0, 0, -1, 0, 1], [0, 0, 1, 0, -1]]))

    def test_locations_jumps_and_starts_in_order(self):
        system = self.joined((*TANK[:4], [(2, at(3)), (0, at(5))]), (*LAMP[:4], [(1, at(7)), (0, at(8)), (1, at(9))]))
        self.assertEqual([jump[:2] for jump in system[3]], [
            (0, 2), (1, 3), (2, 0), (3, 1), (2, 4), (3, 5), (0, 1), (2, 3), (4, 5)])
        self.assertEqual([(place, generators(region)[0]) for place, region in system[4]], [
            (5, [[1, 3, 7]]), (4, [[1, 3, 8]]), (5, [[1, 3, 9]]),
            (1, [[1, 5, 7]]), (0, [[1, 5, 8]]), (1, [[1, 5, 9]])])

    def test_no_variables(self):
        self.assertEqual(self.joined(STILL, STILL), STILL)
        # STILL has one location without conditions, but no start.
        alone = (*STILL[:4], [(0, NO_POINT)])
        for system in (NO_VARIABLES, TANK):
            self.assertEqual(self.joined(system, alone), system)
            self.assertEqual(self.joined(alone, system), system)
            self.assertEqual(self.joined(system, STILL), (*system[:4], []))
        small = (0, 0, [([[3]], [[1], [1]]), ([[5]], [[1]])], [(1, 0, [[4], [6]])], [(0, NO_POINT)])
        self.assertEqual(self.joined(small, small), (
            0, 0,
            [([[3], [3]], [[1]] * 4), ([[3], [5]], [[1]] * 2), ([[5], [3]], [[1]] * 2), ([[5], [5]], [[1]])],
            [(2, 0, [[4], [6]]), (3, 1, [[4], [6]]), (1, 0, [[4], [6]]), (3, 2, [[4], [6]])],
            [(0, NO_POINT)],
        ))

    def test_no_jumps_and_no_starts(self):
        self.assertEqual(self.joined((*LAMP[:3], [], LAMP[4]), (*TANK[:3], [], []))[3:], ([], []))
        system = self.joined((*LAMP[:3], [], LAMP[4]), TANK)
        self.assertEqual([jump[:2] for jump in system[3]], [(0, 1), (1, 0), (1, 2), (3, 4), (4, 3), (4, 5)])
        self.assertEqual(self.joined(LAMP, (*TANK[:4], []))[4], [])

    def test_rates_as_one_point(self):
        system = self.joined(moving(1, [[2, 1], [3, -1], [1, 0]]), moving(2, [[4, 1, 3], [6, 0, 5]]))
        self.assertEqual(system[2][0][1], [
            [4, 2, 1, 3], [6, 3, 0, 5], [12, -4, 3, 9], [6, -2, 0, 5], [4, 0, 1, 3], [6, 0, 0, 5]])
        # Rates are taken as points: 0 in one system stays, and a common factor of both is left out.
        system = self.joined(moving(1, [[2, 1], [1, 0]]), moving(1, [[2, 3], [1, 0]]))
        self.assertEqual(system[2][0][1], [[2, 1, 3], [2, 1, 0], [2, 0, 3], [1, 0, 0]])

    def test_too_many_variables(self):
        self.refused(moving(2, [[1, 0, 0]]), moving(2, [[1, 0, 0]]))
        self.refused(moving(3, [[1, 0, 0, 0]]), moving(1, [[1, 0]]))
        self.refused(moving(3, [[1, 0, 0, 0]]), moving(3, [[1, 0, 0, 0]]))
        self.joined(moving(3, [[1, 0, 0, 0]]), STILL)
        self.joined(moving(2, [[1, 0, 0]]), moving(1, [[1, 0]]))

    def test_too_many_locations(self):
        def many(count):
            return 0, 0, [([], [[1]])] * count, [], []
        for first, second in pairs(range(1, 9), range(1, 9)):
            if first * second <= 8:
                self.assertEqual(len(self.joined(many(first), many(second))[2]), first * second)
            else:
                self.refused(many(first), many(second))

    def test_too_many_jumps(self):
        def many(locations, jumps):
            return 0, 0, [([], [[1]])] * locations, [(0, 0, [])] * jumps, []
        for first, second in [((2, 4), (4, 4)), ((1, 12), (1, 12)), ((1, 24), (1, 0)), ((1, 0), (8, 24)),
                              ((2, 6), (3, 3))]:
            self.assertEqual(len(self.joined(many(*first), many(*second))[3]), 24)
            for one, other in [((first[0], first[1] + 1), second), (first, (second[0], second[1] + 1))]:
                self.refused(many(*one), many(*other))

    def test_too_many_starts(self):
        def many(count):
            return 0, 0, [([], [[1]])], [], [(0, NO_POINT)] * count
        for first, second in pairs(range(9), range(9)):
            if first * second <= 8:
                self.assertEqual(len(self.joined(many(first), many(second))[4]), first * second)
            else:
                self.refused(many(first), many(second))

    def test_too_many_conditions_in_an_invariant(self):
        def many(*counts):
            return 0, 0, [([[5]] * count, [[1]]) for count in counts], [], []
        self.assertEqual(len(self.joined(many(12), many(0))[2][0][0]), 12)
        self.assertEqual(len(self.joined(many(7), many(5))[2][0][0]), 12)
        self.joined(many(3, 8), many(4, 1))
        self.refused(many(7), many(6))
        self.refused(many(12), many(1))
        # One pair of locations is enough.
        self.refused(many(3, 8), many(2, 5))
        self.refused(many(8, 3), many(5, 2))

    def test_too_many_conditions_in_a_relation(self):
        def many(n, fixed, count):
            jumps = [(0, 0, kept(n, fixed) + [[1] + [0] * (2 * n)] * count)]
            return n, fixed, [([], [[1] + [0] * n])], jumps, []
        for first, second, other in [((1, 0, 22), (1, 0, 22), (1, 0, 23)), ((1, 1, 20), (1, 1, 0), (1, 1, 21)),
                                     ((2, 1, 20), (1, 0, 20), (2, 1, 21)), ((1, 0, 20), (2, 2, 0), (1, 0, 21)),
                                     ((1, 0, 20), (2, 0, 22), (1, 0, 21))]:
            longest = max(len(relation) for _, _, relation in self.joined(many(*first), many(*second))[3])
            self.assertEqual(longest, 24)
            self.refused(many(*other), many(*second))
        self.refused(many(1, 0, 0), many(1, 0, 23))
        self.refused((*many(1, 0, 0)[:3], [], []), many(1, 0, 23))
        # Without a jump, there is no relation.
        self.joined((*many(1, 0, 0)[:3], [], []), (*many(1, 0, 0)[:3], [], []))

    def test_too_many_rates(self):
        def many(*counts):
            return 0, 0, [([], [[1]] * count) for count in counts], [], []
        for first, second in pairs(range(1, 9), range(1, 9)):
            if first * second <= 8:
                self.assertEqual(len(self.joined(many(first), many(second))[2][0][1]), first * second)
            else:
                self.refused(many(first), many(second))
        self.refused(many(2, 3), many(4, 3))
        self.joined(many(2, 4), many(2, 1))

    def test_integers_of_rates(self):
        high = 1000000
        for first, second, expected in [
            ([high, 1], [1, high], None), ([high, 1], [1, 1], [high, 1, high]), ([high, 1], [high, -1], [high, 1, -1]),
            ([1000, 1], [999, 1], [999000, 999, 1000]), ([1000, 1], [1001, 1], None),
            ([2, 999999], [4, 1], None), ([2, 499999], [4, 1], [4, 999998, 1]), ([2, -500001], [4, 1], None),
            ([1, high], [1, -high], [1, high, -high]), ([1, high], [2, 1], None), ([1, -high], [2, 1], None),
            ([1, -500000], [2, 1], [2, -high, 1]), ([1, 500000], [2, 1], [2, high, 1]),
            ([1, 0], [high, 3], [high, 0, 3]), ([7, 1], [high, 3], None), ([1000, 1], [1000, 3], [1000, 1, 3]),
            ([1250, 3], [1600, 1], [40000, 96, 25]),
        ]:
            with self.subTest(first=first, second=second):
                one, other = moving(1, [[1, 1], first]), moving(1, [[1, 0], second])
                if expected is None:
                    self.refused(one, other)
                else:
                    self.assertEqual(self.joined(one, other)[2][0][1][3], expected)

    def test_exactly_at_the_bounds(self):
        invariant = [[10 ** 6, -10 ** 6, 10 ** 6]] * 7
        rates = [[10 ** 6, 0, -10 ** 6]] * 4
        relation = kept(2, 1) + [[10 ** 6, 0, 0, -10 ** 6, 1]] * 18
        first = (2, 1, [(invariant, rates)] * 4, [(place, 3 - place, relation) for place in range(4)] * 2,
                 [(place, polyhedron(2, [[-10 ** 9, 0, 1]])) for place in range(4)])
        second = (1, 0, [([[10 ** 6, -1]] * 5, [[1, 1], [10 ** 6, -3]])] * 2, [(1, 0, [[1, 2, 3]] * 18)] * 2,
                  [(0, interval(0, 1)), (1, interval(None, 5))])
        system = self.joined(first, second)
        self.assertEqual([len(part) for part in system[2:]], [8, 24, 8])
        self.assertEqual([len(part) for part in system[2][0]], [12, 8])
        self.assertEqual(len(system[3][0][2]), 22)

    def test_starts_in_the_order_of_the_joint_system(self):
        first = (2, 1, [([], [[1, 0, 0]])], [], [(0, polyhedron(2, [[-1, 0, 2]], [[-3, 1, 1]]))])
        second = (1, 1, [([], [[1, 0]])], [], [(0, polyhedron(1, [[-7, 3]]))])
        self.assertEqual(self.joined(first, second)[4], [
            (0, polyhedron(3, [[-1, 0, 0, 2], [-7, 0, 3, 0]], [[-3, 1, 0, 1]]))])
        self.assertEqual(self.joined(second, first)[4], [
            (0, polyhedron(3, [[-1, 0, 0, 2], [-7, 3, 0, 0]], [[-3, 0, 1, 1]]))])

    def test_as_defined(self):
        rng = Random(321)
        seen = refused = 0
        for _ in range(400):
            first, second = random_started_system(rng), random_started_system(rng)
            n, m = first[0], second[0]
            slow = Slow(first, second)
            system = None
            if n + m <= 3:
                system = slow.system()
                try:
                    check_system(system)
                except ValueError:
                    system = None
            if system is None:
                self.refused(first, second)
                refused += 1
            else:
                self.joined(first, second)
                seen += n * m > 0
        self.assertGreater(seen, 30)
        self.assertGreater(refused, 30)

    def test_both_run_at_the_same_time(self):
        # Both count; only what jumped as often can be reached, and time is common.
        clock = (1, 0, [([], [[1, 1]])], [(0, 0, both_ways([[0, 0, 1]]))], [(0, at(0))])
        system = self.joined(clock, clock)
        goal = polyhedron(2, box([(3, 3), (5, 5)]))
        _, state, run = search(system, [(0, goal)])
        self.assertEqual(state, (0, [1, 0, 0]))
        self.assertEqual(run, [("wait", [1, 2, 2]), ("jump", 0, [1, 0, 2]), ("wait", [1, 3, 5])])
        system = self.joined(counter([-1, -1, 1]), counter([-2, -1, 1]))
        _, state, run = search(system, [(0, polyhedron(2, box([(3, 3), (4, 4)])))])
        self.assertEqual(sorted(step[1] for step in run), [0, 0, 0, 1, 1])

    def test_what_both_do_is_what_each_does(self):
        rng = Random(322)
        seen = 0
        for _ in range(200):
            first, second = random_started_system(rng), random_started_system(rng)
            try:
                system = joint_system(first, second)
            except OutOfRange:
                continue
            slow = Slow(first, second)
            for location, region in system[4]:
                inside = invariant_of(system, location)
                inside = inside and meet(region, inside)
                if inside:
                    point = rng.choice(generators(inside)[0])
                    seen += self.follow(rng, slow, system, location, point)
        self.assertGreater(seen, 40)

    def follow(self, rng, slow, system, location, point):
        """Check a wait and a jump of the joint system, and return how many there were."""
        n = system[0]
        many = len(slow.systems[1][2])
        later = rng.choice(generators(wait_forward(system, location, spanned(n, [point])))[0])
        for side, place in enumerate(divmod(location, many)):
            old, new = self.part(slow, side, point), self.part(slow, side, later)
            alone = slow.systems[side]
            self.assertTrue(has_point(wait_forward(alone, place, spanned(alone[0], [old])), new))
        done = 1
        for jump, (source, target, _) in enumerate(system[3]):
            after = jump_forward(system, jump, spanned(n, [later])) if source == location else None
            if after:
                new = rng.choice(generators(after)[0])
                done += 1
                first_many = len(slow.systems[0][3]) * many
                side = 0 if jump < first_many else 1
                alone = slow.systems[side]
                index = jump // many if side == 0 else (jump - first_many) % len(alone[3])
                old = self.part(slow, side, later)
                reached = jump_forward(alone, index, spanned(alone[0], [old]))
                self.assertTrue(has_point(reached, self.part(slow, side, new)))
                self.assertEqual(self.part(slow, 1 - side, later), self.part(slow, 1 - side, new))
                self.assertEqual(divmod(location, many)[1 - side], divmod(target, many)[1 - side])
        return done

    def part(self, slow, side, point):
        """Return the point of one of the two systems."""
        items = dict(zip(slow.names, point[1:]))
        return as_primitive([point[0]] + [items[side, place] for place in range(slow.systems[side][0])])


if __name__ == "__main__":
    unittest.main()
