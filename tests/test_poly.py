"""Points 8 to 10: conditions, polyhedra and their generators."""

import unittest
from math import gcd
from random import Random

from floodmark.errors import OutOfRange
from floodmark.poly import generators, has_point, polyhedron, spanned
from tests.checking import ProgramTest
from tests.shapes import box, points_to_try, random_conditions, random_direction, random_point, unit
from tests.slow import (both_ways, can_hold, front, holds, slow_dual, slow_echelon, slow_polyhedron,
                        slow_reduced, slow_spanned, value_at)

HUGE = 10 ** 40 + 1
CUBE_8 = box([(-1, 1)] * 8)


def random_parts(rng, most=4):
    """Return a number of variables, conditions and equations."""
    n = rng.randint(0, most)
    conditions = random_conditions(rng, n, rng.randint(0, 6 if n < 4 else 5))
    equations = random_conditions(rng, n, 1) if rng.random() < 0.25 else []
    return n, conditions, equations


class PolyhedronExamplesTest(ProgramTest):

    def check(self, n, conditions, equations, expected):
        with self.subTest(n=n, conditions=conditions, equations=equations):
            result = self.call(polyhedron, n, conditions, equations)
            self.assertEqual(result, expected)
            self.assertEqual(self.call(polyhedron, n, tuple(conditions), tuple(equations)), expected)
            if not equations:
                self.assertEqual(self.call(polyhedron, n, conditions), expected)

    def test_no_conditions(self):
        for n in range(9):
            self.check(n, [], [], (n, [], []))

    def test_no_variables(self):
        self.check(0, [[5]], [], (0, [], []))
        self.check(0, [[0]], [], (0, [], []))
        self.check(0, [[0], [3], [1]], [[0]], (0, [], []))
        self.check(0, [[-1]], [], None)
        self.check(0, [], [[1]], None)
        self.check(0, [[7], [-7]], [], None)

    def test_intervals(self):
        self.check(1, [[-3, 1]], [], (1, [], [[-3, 1]]))
        self.check(1, [[5, -1], [-3, 1]], [], (1, [], [[-3, 1], [5, -1]]))
        self.check(1, [[10, -2], [-6, 4], [-1, 1]], [], (1, [], [[-3, 2], [5, -1]]))
        self.check(1, [[-3, 1], [3, -1]], [], (1, [[-3, 1]], []))
        self.check(1, [], [[6, -4]], (1, [[-3, 2]], []))
        self.check(1, [[0, 1], [0, -1]], [[0, 0]], (1, [[0, 1]], []))
        self.check(1, [[-3, 1], [2, -1]], [], None)

    def test_conditions_that_hold_everywhere_or_nowhere(self):
        self.check(1, [[0, 0]], [], (1, [], []))
        self.check(2, [[4, 0, 0], [0, 0, 0], [1, 0, 0]], [[0, 0, 0]], (2, [], []))
        self.check(2, [[-1, 0, 0]], [], None)
        self.check(2, [], [[1, 0, 0]], None)
        self.check(2, [[0, 1, 0], [-1, 0, 0], [0, 0, 1]], [], None)
        self.check(2, [[-1, 1, 0], [0, -1, 0]], [], None)
        self.check(2, [[-1, 1, 1], [-1, -1, -1]], [], None)
        self.check(2, [[1, 0, 0], [0, 1, 0]], [], (2, [], [[0, 1, 0]]))

    def test_empty_although_the_cone_has_directions(self):
        self.check(3, [[-1, 1, 0, 0], [0, -1, 0, 0], [0, 0, 1, 0]], [], None)
        self.check(1, [[-1, 0], [0, 1]], [], None)
        self.check(2, [[0, 0, 1]], [[1, 1, 0], [2, 1, 0]], None)

    def test_two_variables(self):
        self.check(2, [[0, 1, 0], [0, 0, 1]], [], (2, [], [[0, 0, 1], [0, 1, 0]]))
        self.check(2, [[0, 1, 0], [0, 0, 1], [4, -2, -2]], [],
                   (2, [], [[0, 0, 1], [0, 1, 0], [2, -1, -1]]))
        self.check(2, [[0, 1, 0], [0, 0, 1], [0, -2, -2]], [], (2, [[0, 1, 0], [0, 0, 1]], []))
        self.check(2, [[3, 0, -1], [1, 0, 1]], [], (2, [], [[1, 0, 1], [3, 0, -1]]))
        self.check(2, [[0, 1, 1]], [[0, 1, -1]], (2, [[0, 1, -1]], [[0, 0, 1]]))

    def test_facets_are_reduced_by_the_equations(self):
        self.check(2, [[0, 1, 0]], [[-2, 1, 1]], (2, [[-2, 1, 1]], [[2, 0, -1]]))
        self.check(2, [[0, 1, 0], [0, 0, 1], [2, 0, -1]], [[-2, 1, 1]],
                   (2, [[-2, 1, 1]], [[0, 0, 1], [2, 0, -1]]))
        self.check(3, [[0, 3, 0, 0]], [[1, 0, 2, 0], [-5, 1, 0, -1]],
                   (3, [[-5, 1, 0, -1], [1, 0, 2, 0]], [[5, 0, 0, 1]]))

    def test_eight_variables(self):
        self.check(8, CUBE_8, [], (8, [], sorted(CUBE_8)))
        self.check(8, CUBE_8 + [[8] + [1] * 8, [9] + [-1] * 8], [], (8, [], sorted(CUBE_8)))
        rows = [unit(9, place) for place in range(1, 9)]
        self.check(8, [], rows, (8, rows, []))
        self.check(8, rows + [[0] + [-1] * 8], [], (8, rows, []))
        self.check(8, rows + [[-1] + [-1] * 8], [], None)

    def test_great_numbers(self):
        self.check(1, [[-HUGE, 1], [HUGE + 1, -1]], [], (1, [], [[-HUGE, 1], [HUGE + 1, -1]]))
        self.check(1, [[-HUGE, 1], [HUGE - 1, -1]], [], None)
        self.check(2, [[-1000000, 1000000, 0], [1000000, -999999, 0]], [],
                   (2, [], [[-1, 1, 0], [1000000, -999999, 0]]))

    def test_numbers_of_variables_out_of_range(self):
        for n in (-1, -5, 9, 10, 20):
            for conditions in ([], [[1] + [0] * max(n, 0)]):
                with self.subTest(n=n), self.assertRaises(OutOfRange):
                    polyhedron(n, conditions)

    def test_later_changes_have_no_effect(self):
        conditions = [[-3, 1], [5, -1]]
        result = polyhedron(1, conditions, [])
        conditions[0][0] = 99
        conditions.append([-100, 0])
        self.assertEqual(result, (1, [], [[-3, 1], [5, -1]]))


class PolyhedronDefinitionTest(ProgramTest):
    """Each part of the definition of the representation, over many polyhedra."""

    def for_each(self, seed, many, check):
        rng = Random(seed)
        for _ in range(many):
            n, conditions, equations = random_parts(rng)
            with self.subTest(n=n, conditions=conditions, equations=equations):
                check(rng, n, conditions, equations, self.call(polyhedron, n, conditions, equations))

    def test_none_if_there_is_no_point(self):
        def check(_, n, conditions, equations, region):
            self.assertEqual(region is not None, can_hold(conditions + both_ways(equations), n + 1))
        self.for_each(41, 300, check)

    def test_same_points(self):
        def check(rng, n, conditions, equations, region):
            for point in points_to_try(rng, n):
                inside = region is not None and self.call(has_point, region, point)
                self.assertEqual(inside, holds(equations, conditions, point))
        self.for_each(42, 150, check)

    def test_as_defined(self):
        def check(_, n, conditions, equations, region):
            self.assertEqual(region, slow_polyhedron(n, conditions, equations))
        self.for_each(43, 400, check)

    def test_form(self):
        def check(_, n, conditions, equations, region):
            if region is not None:
                number, rows, facets = region
                self.assertEqual(number, n)
                self.assertEqual(rows, slow_echelon(rows, n + 1))
                for facet in facets:
                    self.assertEqual(gcd(*facet), 1)
                    self.assertEqual(facet, slow_reduced(facet, rows))
                self.assertEqual(facets, sorted(facets))
                self.assertNotIn(front(n), facets)
                for place, facet in enumerate(facets):
                    others = facets[:place] + facets[place + 1:]
                    self.assertNotEqual(slow_polyhedron(n, others, rows), region)
        self.for_each(44, 150, check)

    def test_equal_sets_have_equal_representations(self):
        def check(rng, n, conditions, equations, region):
            factors = [rng.choice([1, 3, HUGE]) for _ in conditions]
            others = [[factor * item for item in row] for factor, row in zip(factors, conditions)]
            others += both_ways(equations)
            for _ in range(3):
                if others:
                    first, second = rng.choice(others), rng.choice(others)
                    others.append([a + 2 * b for a, b in zip(first, second)])
                    others[-1][0] += rng.choice([0, 1])
            rng.shuffle(others)
            self.assertEqual(polyhedron(n, others), region)
            if region is not None:
                self.assertEqual(self.call(polyhedron, n, region[2], region[1]), region)
        self.for_each(45, 200, check)


class GeneratorsTest(ProgramTest):

    def check(self, region, expected):
        with self.subTest(region=region):
            self.assertEqual(self.call(generators, region), expected)
            points, rays, lines = expected
            self.assertEqual(self.call(spanned, region[0], points, rays, lines), region)

    def test_examples(self):
        self.check((0, [], []), ([[1]], [], []))
        self.check((1, [], []), ([[1, 0]], [], [[0, 1]]))
        self.check((1, [], [[-3, 2]]), ([[2, 3]], [[0, 1]], []))
        self.check((1, [], [[-3, 2], [5, -1]]), ([[1, 5], [2, 3]], [], []))
        self.check((1, [[-3, 2]], []), ([[2, 3]], [], []))
        self.check((2, [], [[0, 0, 1], [0, 1, 0]]),
                   ([[1, 0, 0]], [[0, 0, 1], [0, 1, 0]], []))
        self.check((2, [], [[0, 0, 1], [0, 1, 0], [2, -1, -1]]),
                   ([[1, 0, 0], [1, 0, 2], [1, 2, 0]], [], []))

    def test_lines(self):
        self.check((3, [], []), ([[1, 0, 0, 0]], [], [[0, 1, 0, 0], [0, 0, 1, 0], [0, 0, 0, 1]]))
        self.check((2, [], [[1, 0, 1], [3, 0, -1]]), ([[1, 0, -1], [1, 0, 3]], [], [[0, 1, 0]]))
        self.check((2, [[-2, 1, 1]], []), ([[1, 0, 2]], [], [[0, 1, -1]]))
        self.check((2, [], [[-2, 1, 1]]), ([[1, 0, 2]], [[0, 0, 1]], [[0, 1, -1]]))

    def test_eight_variables(self):
        points, rays, lines = self.call(generators, (8, [], sorted(CUBE_8)))
        self.assertEqual((len(points), rays, lines), (256, [], []))
        self.assertEqual(self.call(spanned, 8, points, rays, lines), (8, [], sorted(CUBE_8)))
        units = [unit(9, place) for place in range(1, 9)]
        self.check((8, [], []), ([front(8)], [], units))
        self.check((8, units, []), ([front(8)], [], []))
        self.check((8, [], units[::-1]), ([front(8)], units[::-1], []))

    def test_as_defined(self):
        rng = Random(46)
        for _ in range(300):
            n, conditions, equations = random_parts(rng)
            region = polyhedron(n, conditions, equations)
            if region is not None:
                with self.subTest(region=region):
                    lines, rays = slow_dual(region[1], region[2] + [front(n)], n + 1)
                    points = [ray for ray in rays if ray[0] > 0]
                    self.check(region, (points, [ray for ray in rays if ray[0] == 0], lines))


class SpannedTest(ProgramTest):

    def check(self, n, points, rays, lines, expected):
        with self.subTest(n=n, points=points, rays=rays, lines=lines):
            self.assertEqual(self.call(spanned, n, points, rays, lines), expected)
            arguments = (n, tuple(points), tuple(rays), tuple(lines))
            self.assertEqual(self.call(spanned, *arguments), expected)

    def test_examples(self):
        self.check(0, [[1]], [], [], (0, [], []))
        self.check(1, [[1, 3]], [], [], (1, [[-3, 1]], []))
        self.check(1, [[1, 3], [2, 1]], [], [], (1, [], [[-1, 2], [3, -1]]))
        self.check(1, [[1, 3], [1, 5]], [[0, 1]], [], (1, [], [[-3, 1]]))
        self.check(1, [[1, 3]], [[0, 1], [0, -1]], [], (1, [], []))
        self.check(1, [[1, 3]], [], [[0, 1]], (1, [], []))
        self.check(1, [[1, 3]], [[0, 1]], [[0, -1]], (1, [], []))

    def test_generators_that_are_not_needed(self):
        triangle = (2, [], [[0, 0, 1], [0, 1, 0], [2, -1, -1]])
        corners = [[1, 0, 0], [1, 2, 0], [1, 0, 2]]
        self.check(2, corners, [], [], triangle)
        self.check(2, corners + [[2, 1, 1], [1, 1, 1], [1, 0, 0]], [], [], triangle)
        self.check(2, [[1, 0, 3]], [[0, 1, 0], [0, 2, 1], [0, 1, 1], [0, 1, 1]], [],
                   (2, [], [[-3, 0, 1], [3, 1, -1]]))
        self.check(2, [[1, 0, 3], [1, 7, 3]], [], [[0, 1, 0], [0, -1, 0]], (2, [[-3, 0, 1]], []))

    def test_rays_and_lines_may_be_left_out(self):
        self.assertEqual(self.call(spanned, 1, [[1, 3], [1, 4]]), (1, [], [[-3, 1], [4, -1]]))
        self.assertEqual(self.call(spanned, 1, ([1, 3],), ([0, -1],)), (1, [], [[3, -1]]))

    def test_no_point(self):
        for n, rays, lines in [(0, [], []), (2, [], []), (2, [[0, 1, 0]], []),
                               (2, [[0, 1, 0]], [[0, 0, 1]]), (8, [], [])]:
            with self.subTest(n=n, rays=rays, lines=lines):
                with self.assertRaises(OutOfRange):
                    spanned(n, [], rays, lines)
                with self.assertRaises(OutOfRange):
                    spanned(n, (), tuple(rays), tuple(lines))

    def test_numbers_of_variables_out_of_range(self):
        for n in (-1, -2, 9, 12):
            with self.subTest(n=n):
                with self.assertRaises(OutOfRange):
                    spanned(n, [[1] + [0] * max(n, 0)])
                with self.assertRaises(OutOfRange):
                    spanned(n, [])

    def test_as_defined(self):
        rng = Random(47)
        for _ in range(200):
            n = rng.randint(1, 3)
            points = [random_point(rng, n) for _ in range(rng.randint(1, 5))]
            rays = [random_direction(rng, n) for _ in range(rng.choice([0, 0, 1, 2]))]
            lines = [random_direction(rng, n) for _ in range(rng.choice([0, 0, 0, 1]))]
            with self.subTest(points=points, rays=rays, lines=lines):
                result = self.call(spanned, n, points, rays, lines)
                self.assertEqual(result, slow_spanned(n, points + rays, lines))
                for point in points:
                    self.assertTrue(has_point(result, point))


class HasPointTest(ProgramTest):

    def check(self, region, point, expected):
        with self.subTest(region=region, point=point):
            self.assertIs(self.call(has_point, region, point), expected)

    def test_a_condition_of_the_document(self):
        region = polyhedron(2, [[-3, 1, 0]])
        self.check(region, [1, 3, 0], True)
        self.check(region, [1, 3, -100], True)
        self.check(region, [1, 2, 9], False)
        self.check(region, [2, 6, 1], True)
        self.check(region, [2, 5, 1], False)
        self.check(region, [HUGE, 3 * HUGE, 1], True)
        self.check(region, [HUGE, 3 * HUGE - 1, 1], False)

    def test_equations(self):
        region = polyhedron(2, [[0, 1, 0]], [[-1, 1, 1]])
        self.check(region, [1, 0, 1], True)
        self.check(region, [3, 1, 2], True)
        self.check(region, [3, 1, 1], False)
        self.check(region, [3, 2, 2], False)
        self.check(region, [1, -1, 2], False)

    def test_everywhere(self):
        self.check((0, [], []), [1], True)
        self.check((3, [], []), [7, -1, 0, 5], True)

    def test_values_of_conditions(self):
        rng = Random(48)
        for _ in range(150):
            n, conditions, _ = random_parts(rng)
            region = polyhedron(n, conditions)
            for point in points_to_try(rng, n):
                if region is not None:
                    self.check(region, point, all(value_at(row, point) >= 0 for row in conditions))


if __name__ == "__main__":
    unittest.main()
