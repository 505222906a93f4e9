"""Points 11 and 12: what is made of polyhedra, and least values."""

import unittest
from fractions import Fraction
from random import Random

from floodmark.errors import OutOfRange
from floodmark.poly import (extended, has_point, hull, image, includes, least_value, meet, polyhedron,
                            product, spanned)
from tests.checking import ProgramTest
from tests.shapes import (box, points_to_try, random_conditions, random_direction, random_point,
                          random_vector, unit)
from tests.slow import (both_ways, conditions_in, front, slow_dual, slow_extended, slow_least,
                        slow_spanned, turned, value_at, wide, without_last)

CUBE_8 = polyhedron(8, box([(-1, 1)] * 8))
SQUARE = polyhedron(2, box([(0, 2), (0, 2)]))


def random_polyhedron(rng, n, most=5):
    """Return a polyhedron, not None, in n variables."""
    while True:
        equations = random_conditions(rng, n, 1)[:1] if rng.random() < 0.2 else []
        region = polyhedron(n, random_conditions(rng, n, rng.randint(0, most)), equations)
        if region is not None:
            return region


def random_pair(rng):
    n = rng.randint(0, 3)
    return n, random_polyhedron(rng, n), random_polyhedron(rng, n)


class IncludesTest(ProgramTest):

    def check(self, region, other, expected):
        with self.subTest(region=region, other=other):
            self.assertIs(self.call(includes, region, other), expected)

    def test_examples(self):
        small = polyhedron(2, box([(0, 1), (0, 1)]))
        self.check(SQUARE, small, True)
        self.check(small, SQUARE, False)
        self.check(SQUARE, SQUARE, True)
        self.check(SQUARE, spanned(2, [[1, 2, 2]]), True)
        self.check(SQUARE, spanned(2, [[1, 2, 3]]), False)
        self.check(spanned(2, [[1, 2, 2]]), SQUARE, False)
        self.check((0, [], []), (0, [], []), True)

    def test_rays_and_lines(self):
        quadrant = polyhedron(2, box([(0, None), (0, None)]))
        strip = polyhedron(2, box([(None, None), (0, 2)]))
        whole = polyhedron(2, [])
        self.check(quadrant, SQUARE, True)
        self.check(SQUARE, quadrant, False)
        self.check(strip, SQUARE, True)
        self.check(strip, quadrant, False)
        self.check(quadrant, strip, False)
        self.check(polyhedron(2, [[0, 0, 1]]), strip, True)
        self.check(polyhedron(2, [[0, 0, -1]]), strip, False)
        for region in (quadrant, strip, SQUARE):
            self.check(whole, region, True)
            self.check(region, whole, False)

    def test_equations(self):
        line = polyhedron(2, [], [[0, 1, -1]])
        self.check(line, polyhedron(2, box([(0, 1), (None, None)]), [[0, 1, -1]]), True)
        self.check(line, spanned(2, [[1, 1, 2]]), False)
        self.check(polyhedron(2, [[1, 1, -1]]), line, True)
        self.check(polyhedron(2, [[1, 1, 1]]), line, False)

    def test_as_least_values_say(self):
        rng = Random(51)
        seen = {True: 0, False: 0}
        for _ in range(300):
            _, region, other = random_pair(rng)
            if rng.random() < 0.5:
                region = hull(region, other) if rng.random() < 0.5 else region
                other = meet(region, other) or other
            least = [slow_least(conditions_in(other), row) for row in conditions_in(region)]
            expected = all(value is not None and value >= 0 for value in least)
            self.check(region, other, expected)
            seen[expected] += 1
        self.assertGreater(min(seen.values()), 50)


class MeetTest(ProgramTest):

    def check(self, region, other, expected):
        with self.subTest(region=region, other=other):
            self.assertEqual(self.call(meet, region, other), expected)
            self.assertEqual(self.call(meet, other, region), expected)

    def test_examples(self):
        self.check(SQUARE, polyhedron(2, box([(1, 5), (-3, 1)])), polyhedron(2, box([(1, 2), (0, 1)])))
        self.check(SQUARE, polyhedron(2, box([(2, 5), (None, None)])), polyhedron(2, box([(2, 2), (0, 2)])))
        self.check(SQUARE, polyhedron(2, [[-4, 1, 1]]), (2, [[-2, 1, 0], [-2, 0, 1]], []))
        self.check(SQUARE, polyhedron(2, [[-5, 1, 1]]), None)
        self.check(SQUARE, SQUARE, SQUARE)
        self.check(SQUARE, (2, [], []), SQUARE)
        self.check(polyhedron(1, [], [[-1, 1]]), polyhedron(1, [], [[-2, 1]]), None)
        self.check((0, [], []), (0, [], []), (0, [], []))
        self.check(CUBE_8, polyhedron(8, [[-8] + [1] * 8]), spanned(8, [[1] * 9]))
        self.check(CUBE_8, polyhedron(8, [[-9] + [1] * 8]), None)

    def test_points_in_both(self):
        rng = Random(52)
        for _ in range(150):
            n, region, other = random_pair(rng)
            result = self.call(meet, region, other)
            self.assertEqual(result, polyhedron(n, conditions_in(region) + conditions_in(other)))
            for point in points_to_try(rng, n):
                both = has_point(region, point) and has_point(other, point)
                self.assertEqual(both, result is not None and has_point(result, point))


class HullTest(ProgramTest):

    def check(self, region, other, expected):
        with self.subTest(region=region, other=other):
            self.assertEqual(self.call(hull, region, other), expected)
            self.assertEqual(self.call(hull, other, region), expected)

    def test_examples(self):
        self.check(spanned(1, [[1, 2]]), spanned(1, [[2, 7]]), (1, [], [[-2, 1], [7, -2]]))
        self.check(SQUARE, spanned(2, [[1, 1, 1]]), SQUARE)
        self.check(SQUARE, spanned(2, [[1, 4, 0]]), polyhedron(2, box([(0, 4), (0, 2)]) + [[4, -1, -1]]))
        self.check((0, [], []), (0, [], []), (0, [], []))
        self.check(CUBE_8, spanned(8, [[1] + [0] * 8]), CUBE_8)

    def test_a_line_and_a_point_beside_it(self):
        line = polyhedron(2, [], [[-1, 0, 1]])
        self.check(line, spanned(2, [[1, 0, 0]]), polyhedron(2, box([(None, None), (0, 1)])))
        self.check(line, polyhedron(2, [], [[0, 1, 0]]), (2, [], []))
        ray = spanned(2, [[1, 0, 0]], [[0, 0, 1]])
        self.check(ray, spanned(2, [[1, 3, 5]]), polyhedron(2, box([(0, 3), (None, None)]) + [[0, -5, 3]]))

    def test_smallest_that_includes_both(self):
        rng = Random(53)
        for _ in range(150):
            n, region, other = random_pair(rng)
            result = self.call(hull, region, other)
            self.assertTrue(includes(result, region))
            self.assertTrue(includes(result, other))
            for row in conditions_in(result):
                values = [slow_least(conditions_in(part), row) for part in (region, other)]
                self.assertEqual(min(values), 0)
            lines, rays = zip(*[slow_dual(part[1], part[2] + [front(n)], n + 1)
                                for part in (region, other)])
            self.assertEqual(result, slow_spanned(n, rays[0] + rays[1], lines[0] + lines[1]))


class ImageTest(ProgramTest):

    def check(self, region, rows, expected):
        with self.subTest(region=region, rows=rows):
            self.assertEqual(self.call(image, region, rows), expected)

    def test_projections(self):
        self.check(SQUARE, [[0, 1, 0]], polyhedron(1, box([(0, 2)])))
        self.check(polyhedron(2, box([(0, 2), (3, None)])), [[0, 0, 1]], (1, [], [[-3, 1]]))
        self.check(polyhedron(2, [], [[-1, 1, 1]]), [[0, 1, 0]], (1, [], []))
        self.check(SQUARE, [], (0, [], []))
        self.check((0, [], []), [], (0, [], []))

    def test_constants_and_sums(self):
        self.check(SQUARE, [[7, 0, 0]], (1, [[-7, 1]], []))
        self.check(SQUARE, [[0, 1, 1]], polyhedron(1, box([(0, 4)])))
        self.check(SQUARE, [[1, 2, -1], [0, 1, 0]],
                   polyhedron(2, [[0, 0, 1], [2, 0, -1], [1, -1, 2], [1, 1, -2]]))
        self.check((2, [], []), [[5, 1, 1]], (1, [], []))
        self.check((0, [], []), [[3], [-2]], spanned(2, [[1, 3, -2]]))

    def test_more_variables(self):
        self.check(polyhedron(1, box([(0, 1)])), [[0, 1], [0, 1], [1, -1]],
                   polyhedron(3, box([(0, 1), (0, 1), (0, 1)]), [[0, 1, -1, 0], [-1, 1, 0, 1]]))
        result = self.call(image, polyhedron(1, box([(0, 1)])), [[place, 1] for place in range(8)])
        self.assertEqual(result, spanned(8, [[1, *range(8)], [1, *range(1, 9)]]))
        self.check(CUBE_8, [unit(9, place) for place in range(8, 0, -1)], CUBE_8)
        self.check(CUBE_8, [[0] + [1] * 8], polyhedron(1, box([(-8, 8)])))

    def test_too_many_variables(self):
        for many in (9, 10):
            with self.subTest(many=many):
                with self.assertRaises(OutOfRange):
                    image(SQUARE, [[0, 1, 0]] * many)
                with self.assertRaises(OutOfRange):
                    image((0, [], []), [[1]] * many)
                with self.assertRaises(OutOfRange):
                    image(CUBE_8, [[1] + [0] * 8] * many)

    def test_points_of_the_definition(self):
        rng = Random(54)
        for _ in range(200):
            n = rng.randint(0, 3)
            region = random_polyhedron(rng, n)
            rows = [random_vector(rng, n + 1, 3) for _ in range(rng.randint(0, 3))]
            many = len(rows)
            # The new coordinates stand first, the old ones, which are then eliminated, last.
            pairs = [wide(row, many, 0) for row in conditions_in(region)]
            pairs += both_ways([[row[0]] + unit(many, place, -1) + row[1:]
                                for place, row in enumerate(rows)])
            self.check(region, rows, polyhedron(many, without_last(pairs, n)))


class ExtendedTest(ProgramTest):

    def check(self, region, directions, expected):
        with self.subTest(region=region, directions=directions):
            self.assertEqual(self.call(extended, region, directions), expected)

    def test_examples(self):
        self.check(SQUARE, [], SQUARE)
        self.check(SQUARE, [[0, 1, 0]], polyhedron(2, box([(0, None), (0, 2)])))
        self.check(SQUARE, [[0, 1, 0], [0, -1, 0]], polyhedron(2, box([(None, None), (0, 2)])))
        self.check(SQUARE, [[0, 1, 1]], polyhedron(2, box([(0, None), (0, None)]) + [[2, 1, -1], [2, -1, 1]]))
        self.check(SQUARE, [[0, 1, 0], [0, 1, 0], [0, 0, 1], [0, 1, 1]],
                   polyhedron(2, box([(0, None), (0, None)])))
        self.check((2, [], []), [[0, 3, 1]], (2, [], []))
        self.check((0, [], []), [], (0, [], []))
        self.check(CUBE_8, [unit(9, 8)], polyhedron(8, box([(-1, 1)] * 7 + [(-1, None)])))

    def test_along_a_line_of_the_polyhedron(self):
        strip = polyhedron(2, box([(None, None), (0, 2)]))
        self.check(strip, [[0, 1, 0], [0, -5, 0]], strip)
        self.check(strip, [[0, -3, 1]], polyhedron(2, [[0, 0, 1]]))

    def test_sums_of_points_and_directions(self):
        rng = Random(55)
        for _ in range(200):
            n = rng.randint(1, 3)
            region = random_polyhedron(rng, n, 4)
            directions = [random_direction(rng, n) for _ in range(rng.randint(0, 3))]
            rows = slow_extended(conditions_in(region), directions)
            self.check(region, directions, polyhedron(n, rows))


class ProductTest(ProgramTest):

    def check(self, region, other, expected):
        with self.subTest(region=region, other=other):
            self.assertEqual(self.call(product, region, other), expected)

    def test_examples(self):
        up = polyhedron(1, [[-3, 1]])
        self.check(up, polyhedron(1, box([(0, 1)])), polyhedron(2, box([(3, None), (0, 1)])))
        self.check(up, (0, [], []), up)
        self.check((0, [], []), SQUARE, SQUARE)
        self.check((0, [], []), (0, [], []), (0, [], []))
        self.check((1, [[-2, 1]], []), (2, [[-5, 1, 1]], [[0, 0, 1]]),
                   (3, [[-2, 1, 0, 0], [-5, 0, 1, 1]], [[0, 0, 0, 1]]))
        self.check((2, [], []), (3, [], []), (5, [], []))

    def test_eight_variables(self):
        half = polyhedron(4, box([(-1, 1)] * 4))
        self.check(half, half, CUBE_8)
        self.check(CUBE_8, (0, [], []), CUBE_8)
        self.check((0, [], []), CUBE_8, CUBE_8)
        self.check(polyhedron(6, box([(-1, 1)] * 6)), polyhedron(2, box([(-1, 1)] * 2)), CUBE_8)

    def test_too_many_variables(self):
        for n, m in [(8, 1), (1, 8), (5, 4), (8, 8)]:
            with self.subTest(n=n, m=m), self.assertRaises(OutOfRange):
                product((n, [], []), (m, [], []))

    def test_points_of_both(self):
        rng = Random(56)
        for _ in range(150):
            n, m = rng.randint(0, 3), rng.randint(0, 3)
            region, other = random_polyhedron(rng, n), random_polyhedron(rng, m)
            rows = ([wide(row, 0, m) for row in conditions_in(region)]
                    + [wide(row, n, 0) for row in conditions_in(other)])
            self.check(region, other, polyhedron(n + m, rows))
            swapped = turned(conditions_in(product(region, other)), n)
            self.check(other, region, polyhedron(n + m, swapped))


class LeastValueTest(ProgramTest):

    def check(self, region, condition, expected):
        with self.subTest(region=region, condition=condition):
            self.assertEqual(self.call_for_fraction(region, condition), expected)

    def call_for_fraction(self, region, condition):
        result = self.call(least_value, region, condition)
        if result is not None:
            self.assertIs(type(result), tuple)
            self.assertEqual(result, (Fraction(*result).numerator, Fraction(*result).denominator))
        return result

    def test_examples(self):
        self.check(SQUARE, [0, 1, 0], (0, 1))
        self.check(SQUARE, [0, -1, 0], (-2, 1))
        self.check(SQUARE, [-3, 1, 1], (-3, 1))
        self.check(SQUARE, [5, -1, -2], (-1, 1))
        self.check(SQUARE, [7, 0, 0], (7, 1))
        self.check(SQUARE, [0, 0, 0], (0, 1))
        self.check((0, [], []), [-4], (-4, 1))
        self.check(polyhedron(1, [[-3, 2]]), [0, 1], (3, 2))
        self.check(polyhedron(1, [[-3, 2]]), [1, 4], (7, 1))
        self.check(polyhedron(1, [[-3, 2]]), [0, 0], (0, 1))
        self.check(polyhedron(2, [], [[-1, 2, 0], [-1, 0, 3]]), [0, 1, 1], (5, 6))
        self.check(CUBE_8, [1] * 9, (-7, 1))

    def test_no_lower_bound(self):
        self.check(polyhedron(1, [[-3, 2]]), [0, -1], None)
        self.check((1, [], []), [0, 1], None)
        self.check((1, [], []), [0, -1], None)
        self.check((1, [], []), [5, 0], (5, 1))
        strip = polyhedron(2, box([(None, None), (0, 2)]))
        self.check(strip, [0, 1, 0], None)
        self.check(strip, [0, -1, 5], None)
        self.check(strip, [0, 0, -5], (-10, 1))
        wedge = spanned(2, [[1, 0, 0]], [[0, 1, 1], [0, 1, -1]])
        self.check(wedge, [0, 1, 1], (0, 1))
        self.check(wedge, [0, 1, 2], None)

    def test_great_numbers(self):
        huge = 10 ** 30
        self.check(polyhedron(1, [[-huge, huge + 1]]), [0, 1], (huge, huge + 1))
        self.check(spanned(1, [[huge, 1], [huge + 1, 1]]), [0, huge], (huge, huge + 1))

    def test_as_defined(self):
        rng = Random(57)
        bounded = 0
        for _ in range(400):
            n = rng.randint(0, 3)
            region = random_polyhedron(rng, n)
            condition = random_vector(rng, n + 1, 5)
            if rng.random() < 0.5 and region[2]:
                condition = [3 * item for item in rng.choice(region[2])]
            least = slow_least(conditions_in(region), condition)
            expected = None if least is None else (least.numerator, least.denominator)
            self.check(region, condition, expected)
            bounded += least is not None
        self.assertGreater(bounded, 100)
        self.assertLess(bounded, 350)

    def test_points_have_no_lower_value(self):
        rng = Random(58)
        for _ in range(100):
            n = rng.randint(0, 3)
            points = [random_point(rng, n) for _ in range(4)]
            condition = random_vector(rng, n + 1, 5)
            least = min(value_at(condition, point) for point in points)
            self.check(spanned(n, points), condition, (least.numerator, least.denominator))


if __name__ == "__main__":
    unittest.main()
