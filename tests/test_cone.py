"""Points 6 and 7: the generators of cones, their equations and facets."""

import unittest
from itertools import product
from math import gcd
from random import Random

from floodmark.cone import dual
from tests.checking import ProgramTest
from tests.slow import columns, holds, null_space, pivot_of, product_of, rank, slow_dual, slow_reduced

HUGE = 10 ** 60 + 7


def unit(size, place, item=1):
    return [item if column == place else 0 for column in range(size)]


def random_vectors(rng, size, many, high):
    return [[rng.choice([0, rng.randint(-high, high)]) for _ in range(size)] for _ in range(many)]


def random_cone(rng):
    """Return equations, conditions and a size, often with doubles, negatives and sums."""
    size = rng.randint(1, 5)
    high = rng.choice([1, 1, 2, 3, 1000000])
    equations = random_vectors(rng, size, rng.choice([0, 0, 0, 1, 2]), high)
    conditions = random_vectors(rng, size, rng.randint(0, 7), high)
    for _ in range(rng.randint(0, 2)):
        if conditions:
            first, second = rng.choice(conditions), rng.choice(conditions)
            left, right = rng.choice([(1, 1), (2, 3), (0, 0), (-1, 0), (1, 0), (5, 0)])
            conditions.append([left * a + right * b for a, b in zip(first, second)])
    rng.shuffle(conditions)
    return equations, conditions, size


def vectors_to_try(rng, size):
    """Return many vectors of a size, all small ones if there are not too many."""
    if size <= 3:
        return [list(vector) for vector in product(range(-2, 3), repeat=size)]
    return ([[rng.randint(-1, 1) for _ in range(size)] for _ in range(60)]
            + [[rng.randint(-9, 9) for _ in range(size)] for _ in range(60)])


class ExamplesTest(ProgramTest):

    def check(self, equations, conditions, size, lines, rays):
        with self.subTest(equations=equations, conditions=conditions, size=size):
            result = self.call_for_integers(dual, equations, conditions, size)
            self.assertEqual(result, (lines, rays))

    def test_no_equations_and_no_conditions(self):
        self.check([], [], 1, [[1]], [])
        self.check([], [], 2, [[0, 1], [1, 0]], [])
        self.check([], [], 3, [[0, 1, 0], [0, 0, 1], [1, 0, 0]], [])

    def test_size_1(self):
        self.check([], [[1]], 1, [], [[1]])
        self.check([], [[5], [3]], 1, [], [[1]])
        self.check([], [[-5]], 1, [], [[-1]])
        self.check([], [[0]], 1, [[1]], [])
        self.check([[0]], [], 1, [[1]], [])
        self.check([[3]], [], 1, [], [])
        self.check([], [[1], [-1]], 1, [], [])
        self.check([], [[-2], [7], [0]], 1, [], [])
        self.check([[0]], [[-2]], 1, [], [[-1]])
        self.check([[2]], [[1]], 1, [], [])

    def test_equations_only(self):
        self.check([[1, 0]], [], 2, [[0, 1]], [])
        self.check([[1, 2]], [], 2, [[-2, 1]], [])
        self.check([[1, 2], [2, 4], [-1, -2], [0, 0]], [], 2, [[-2, 1]], [])
        self.check([[1, 0], [1, 1]], [], 2, [], [])
        self.check([[1, 1, 1]], [], 3, [[-1, 1, 0], [-1, 0, 1]], [])
        self.check([[0, 2, 3]], [], 3, [[0, 3, -2], [1, 0, 0]], [])

    def test_conditions_only(self):
        self.check([], [[1, 0], [0, 1]], 2, [], [[0, 1], [1, 0]])
        self.check([], [[1, 0]], 2, [[0, 1]], [[1, 0]])
        self.check([], [[-1, 0]], 2, [[0, 1]], [[-1, 0]])
        self.check([], [[0, 1]], 2, [[1, 0]], [[0, 1]])
        self.check([], [[1, 1]], 2, [[-1, 1]], [[1, 0]])
        self.check([], [[2, 1], [1, 2]], 2, [], [[-1, 2], [2, -1]])

    def test_both(self):
        self.check([[1, -1, 0]], [[0, 1, 0], [0, 0, 1]], 3, [], [[0, 0, 1], [1, 1, 0]])
        self.check([[0, 1, -1]], [[1, 0, 0]], 3, [[0, 1, 1]], [[1, 0, 0]])
        self.check([[1, 1]], [[1, 0]], 2, [], [[1, -1]])
        self.check([[1, 1]], [[1, 0], [0, 1]], 2, [], [])
        self.check([[1, 1]], [[1, 1], [-2, -2]], 2, [[-1, 1]], [])

    def test_zeros_doubles_and_negatives(self):
        self.check([], [[0, 0]], 2, [[0, 1], [1, 0]], [])
        self.check([], [[0, 0], [1, 0], [0, 0], [2, 0], [1, 0], [0, 1]], 2, [], [[0, 1], [1, 0]])
        self.check([], [[1, 0], [-1, 0]], 2, [[0, 1]], [])
        self.check([], [[1, 2], [-3, -6], [0, 1]], 2, [], [[-2, 1]])
        self.check([], [[1, 0], [0, 1], [-1, -1]], 2, [], [])
        self.check([], [[1, 0, 0], [0, 1, 0], [-1, -1, 0]], 3, [[0, 0, 1]], [])

    def test_conditions_that_follow_from_others(self):
        self.check([], [[1, 0], [0, 1], [1, 1], [3, 1]], 2, [], [[0, 1], [1, 0]])
        self.check([], [[1, 1], [3, 1], [1, 0], [0, 1]], 2, [], [[0, 1], [1, 0]])
        self.check([], [[1, 0], [1, 1], [1, -1]], 2, [], [[1, -1], [1, 1]])

    def test_half_line_and_line(self):
        self.check([], [[1, 1], [-1, -1], [0, 1]], 2, [], [[-1, 1]])
        self.check([[0, 1, 0], [0, 0, 1]], [[1, 0, 0]], 3, [], [[1, 0, 0]])
        self.check([[0, 1, 0], [0, 0, 1]], [], 3, [[1, 0, 0]], [])
        self.check([[1, 0, 0]], [[0, 1, 1], [0, -1, -1]], 3, [[0, 1, -1]], [])

    def test_rays_are_reduced_by_the_lines(self):
        self.check([], [[1, 1, 1], [1, 0, 0]], 3, [[0, 1, -1]], [[0, 0, 1], [1, 0, -1]])
        self.check([], [[0, 1, 2]], 3, [[0, 2, -1], [1, 0, 0]], [[0, 0, 1]])
        self.check([], [[3, -2]], 2, [[2, 3]], [[1, 0]])
        self.check([], [[-3, 2]], 2, [[2, 3]], [[-1, 0]])

    def test_square_octahedron_and_cube(self):
        square = [[1, 1, 0], [1, -1, 0], [1, 0, 1], [1, 0, -1]]
        corners = [[1, -1, -1], [1, -1, 1], [1, 1, -1], [1, 1, 1]]
        self.check([], square, 3, [], corners)
        self.check([], corners, 3, [], sorted(square))
        cube = [[1, *unit(3, place, item)] for place in range(3) for item in (1, -1)]
        cube_corners = [[1, *signs] for signs in product((-1, 1), repeat=3)]
        self.check([], cube, 4, [], cube_corners)
        self.check([], cube_corners, 4, [], sorted(cube))

    def test_great_numbers(self):
        self.check([], [[HUGE, 0], [0, HUGE]], 2, [], [[0, 1], [1, 0]])
        self.check([], [[HUGE, 1], [-HUGE, 1]], 2, [], [[-1, HUGE], [1, HUGE]])
        self.check([[HUGE, -1]], [[0, 1]], 2, [], [[1, HUGE]])
        self.check([], [[HUGE, 1 - HUGE], [HUGE + 1, -HUGE]], 2, [],
                   [[1 - HUGE, -HUGE], [HUGE, HUGE + 1]])


class DefinitionTest(ProgramTest):
    """Each part of the definition of generators, over many cones."""

    def for_each_cone(self, seed, many, check):
        rng = Random(seed)
        for _ in range(many):
            equations, conditions, size = random_cone(rng)
            with self.subTest(equations=equations, conditions=conditions, size=size):
                lines, rays = self.call_for_integers(dual, equations, conditions, size)
                check(equations, conditions, size, lines, rays)

    def test_lines_span_all_vectors_that_are_in_the_cone_with_their_negatives(self):
        def check(equations, conditions, size, lines, _):
            space = null_space(equations + conditions, size)
            self.assertEqual(len(lines), len(space))
            self.assertEqual(rank(lines + space, size), len(space))
        self.for_each_cone(11, 200, check)

    def test_lines_are_in_echelon_form(self):
        def check(_, __, size, lines, ___):
            pivots = [pivot_of(line) for line in lines]
            order = [columns(size).index(column) for column in pivots]
            self.assertEqual(order, sorted(set(order)))
            for line, pivot in zip(lines, pivots):
                self.assertEqual(gcd(*line), 1)
                self.assertGreater(line[pivot], 0)
                self.assertEqual([other[pivot] for other in lines if other is not line],
                                 [0] * (len(lines) - 1))
        self.for_each_cone(12, 200, check)

    def test_rays_are_reduced_different_and_ascending(self):
        def check(_, __, ___, lines, rays):
            for ray in rays:
                self.assertEqual(gcd(*ray), 1)
                self.assertEqual(ray, slow_reduced(ray, lines))
            for ray, following in zip(rays, rays[1:]):
                self.assertLess(ray, following)
        self.for_each_cone(13, 200, check)

    def test_sums_of_generators_are_in_the_cone(self):
        rng = Random(14)

        def check(equations, conditions, size, lines, rays):
            for _ in range(10):
                total = [0] * size
                for row in lines:
                    factor = rng.randint(-3, 3)
                    total = [a + factor * b for a, b in zip(total, row)]
                for row in rays:
                    factor = rng.randint(0, 3)
                    total = [a + factor * b for a, b in zip(total, row)]
                self.assertTrue(holds(equations, conditions, total))
        self.for_each_cone(15, 100, check)

    def test_no_ray_can_be_left_out_and_none_is_missing(self):
        def check(equations, conditions, size, lines, rays):
            self.assertEqual((lines, rays), slow_dual(equations, conditions, size))
        self.for_each_cone(16, 500, check)

    def test_without_a_ray_the_cone_is_smaller(self):
        def check(_, __, size, lines, rays):
            for place, ray in enumerate(rays):
                others = rays[:place] + rays[place + 1:]
                equations, facets = slow_dual(lines, others, size)
                self.assertFalse(holds(equations, facets, ray))
        self.for_each_cone(17, 60, check)

    def test_order_and_factors_of_the_conditions_do_not_matter(self):
        rng = Random(18)

        def check(equations, conditions, size, lines, rays):
            factors = [rng.choice([1, 2, 7, HUGE]) for _ in conditions]
            others = [[factor * item for item in row] for factor, row in zip(factors, conditions)]
            rng.shuffle(others)
            turned = [[-item for item in row] for row in equations]
            self.assertEqual(dual(turned[::-1], others, size), (lines, rays))
            more = conditions + equations + turned
            self.assertEqual(dual([], more, size), (lines, rays))
        self.for_each_cone(19, 100, check)

    def test_more_conditions(self):
        rng = Random(20)
        for size, many in [(3, 12), (4, 10), (5, 9), (4, 12)]:
            for _ in range(5):
                conditions = [[rng.randint(1, 6)] + row
                              for row in random_vectors(rng, size - 1, many, 4)]
                with self.subTest(conditions=conditions):
                    result = self.call_for_integers(dual, [], conditions, size)
                    self.assertEqual(result, slow_dual([], conditions, size))

    def test_cube_in_8_dimensions(self):
        cube = [[1, *unit(8, place, item)] for place in range(8) for item in (1, -1)]
        corners = [[1, *signs] for signs in product((-1, 1), repeat=8)]
        self.assertEqual(self.call(dual, [], cube, 9), ([], corners))
        self.assertEqual(self.call(dual, [], corners, 9), ([], sorted(cube)))


class DualOfTheDualTest(ProgramTest):

    def test_examples(self):
        for lines, rays, size in [
            ([], [], 1), ([[1]], [], 1), ([], [[1]], 1), ([], [[-1]], 1),
            ([], [], 3), ([[0, 1, 0], [0, 0, 1], [1, 0, 0]], [], 3),
            ([[0, 1, -1]], [[0, 0, 1], [1, 0, -1]], 3),
            ([], [[1, -1, -1], [1, -1, 1], [1, 1, -1], [1, 1, 1]], 3),
            ([[-1, 1, 0]], [], 3), ([], [[2, -3, 5]], 3),
        ]:
            with self.subTest(lines=lines, rays=rays, size=size):
                equations, facets = self.call_for_integers(dual, lines, rays, size)
                result = self.call_for_integers(dual, equations, facets, size)
                self.assertEqual(result, (lines, rays))

    def test_gives_the_generators_again(self):
        rng = Random(21)
        for _ in range(300):
            equations, conditions, size = random_cone(rng)
            with self.subTest(equations=equations, conditions=conditions, size=size):
                lines, rays = dual(equations, conditions, size)
                new_equations, facets = self.call_for_integers(dual, lines, rays, size)
                result = self.call_for_integers(dual, new_equations, facets, size)
                self.assertEqual(result, (lines, rays))
                self.assertEqual((new_equations, facets), slow_dual(lines, rays, size))

    def test_equations_and_facets_hold_for_the_same_vectors(self):
        rng = Random(22)
        for _ in range(150):
            equations, conditions, size = random_cone(rng)
            with self.subTest(equations=equations, conditions=conditions, size=size):
                lines, rays = dual(equations, conditions, size)
                new_equations, facets = dual(lines, rays, size)
                for vector in vectors_to_try(rng, size) + rays + lines:
                    self.assertEqual(holds(new_equations, facets, vector),
                                     holds(equations, conditions, vector))

    def test_facets_are_needed_conditions(self):
        conditions = [[1, 0, 0], [0, 1, 0], [5, 3, 0], [0, 0, 1], [0, 2, 7]]
        lines, rays = dual([], conditions, 3)
        equations, facets = dual(lines, rays, 3)
        self.assertEqual(equations, [])
        self.assertEqual(facets, [[0, 0, 1], [0, 1, 0], [1, 0, 0]])
        for facet in facets:
            self.assertEqual(len([ray for ray in rays if product_of(facet, ray) == 0]), 2)


if __name__ == "__main__":
    unittest.main()
