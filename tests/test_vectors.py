"""Points 1 to 5: fractions, vectors, rows in echelon form, reduced vectors."""

import unittest
from itertools import product
from math import gcd
from random import Random

from floodmark.errors import FloodError, OutOfRange
from floodmark.vectors import combined, dot, echelon, fraction, is_less, primitive, reduced
from tests.checking import ProgramTest
from tests.slow import columns, pivot_of, product_of, rank, slow_echelon, slow_reduced

HUGE = 10 ** 60 + 7


class FractionTest(ProgramTest):

    def test_lowest_terms(self):
        for top, low, expected in [
            (1, 2, (1, 2)), (2, 4, (1, 2)), (6, 3, (2, 1)), (3, 6, (1, 2)), (5, 5, (1, 1)),
            (12, 18, (2, 3)), (7, 1, (7, 1)), (0, 1, (0, 1)), (0, 9, (0, 1)),
            (-1, 2, (-1, 2)), (-2, 4, (-1, 2)), (-6, 3, (-2, 1)), (-5, 5, (-1, 1)),
        ]:
            with self.subTest(top=top, low=low):
                self.assertEqual(self.call_for_integers(fraction, top, low), expected)

    def test_negative_low(self):
        for top, low, expected in [
            (1, -2, (-1, 2)), (-1, -2, (1, 2)), (2, -4, (-1, 2)), (-6, -4, (3, 2)),
            (0, -5, (0, 1)), (5, -5, (-1, 1)), (-5, -5, (1, 1)), (3, -1, (-3, 1)),
        ]:
            with self.subTest(top=top, low=low):
                self.assertEqual(self.call_for_integers(fraction, top, low), expected)

    def test_all_small_ones(self):
        for top, low in product(range(-12, 13), repeat=2):
            if low != 0:
                with self.subTest(top=top, low=low):
                    new_top, new_low = self.call_for_integers(fraction, top, low)
                    self.assertGreaterEqual(new_low, 1)
                    self.assertEqual(gcd(new_top, new_low), 1)
                    self.assertEqual(new_top * low, top * new_low)

    def test_numbers_with_dozens_of_digits(self):
        self.assertEqual(self.call_for_integers(fraction, 6 * HUGE, -4 * HUGE), (-3, 2))
        self.assertEqual(self.call_for_integers(fraction, HUGE, HUGE + 1), (HUGE, HUGE + 1))
        self.assertEqual(self.call_for_integers(fraction, HUGE * 10 ** 40, 10 ** 41), (HUGE, 10))
        self.assertEqual(self.call_for_integers(fraction, -HUGE, HUGE), (-1, 1))

    def test_low_of_zero(self):
        for top in (1, 0, -1, HUGE):
            with self.subTest(top=top):
                with self.assertRaises(OutOfRange):
                    fraction(top, 0)
                with self.assertRaises(FloodError):
                    fraction(top, 0)


class IsLessTest(ProgramTest):

    def check(self, first, second, expected):
        with self.subTest(first=first, second=second):
            self.assertIs(self.call(is_less, first, second), expected)

    def test_equal_fractions_are_not_less(self):
        for item in [(0, 1), (1, 2), (-1, 2), (-7, 3), (HUGE, HUGE - 1)]:
            self.check(item, item, False)

    def test_near_ones(self):
        self.check((1, 3), (1, 2), True)
        self.check((1, 2), (1, 3), False)
        self.check((99, 100), (100, 101), True)
        self.check((100, 101), (99, 100), False)
        self.check((HUGE - 1, HUGE), (HUGE, HUGE + 1), True)
        self.check((HUGE, HUGE + 1), (HUGE - 1, HUGE), False)
        self.check((HUGE, 1), (HUGE + 1, 1), True)

    def test_negative_ones_and_zero(self):
        self.check((-1, 2), (-1, 3), True)
        self.check((-1, 3), (-1, 2), False)
        self.check((-5, 1), (1, 7), True)
        self.check((1, 7), (-5, 1), False)
        self.check((-1, 9), (0, 1), True)
        self.check((0, 1), (-1, 9), False)
        self.check((0, 1), (1, 9), True)
        self.check((1, 9), (0, 1), False)
        self.check((-HUGE, HUGE - 1), (-HUGE - 1, HUGE), True)

    def test_order_of_all_small_ones(self):
        ordered = [(-3, 1), (-5, 2), (-2, 1), (-3, 2), (-1, 1), (-2, 3), (-1, 2), (-1, 3), (0, 1),
                   (1, 3), (1, 2), (2, 3), (1, 1), (3, 2), (2, 1), (5, 2), (3, 1)]
        for place, first in enumerate(ordered):
            for other, second in enumerate(ordered):
                self.check(first, second, place < other)


class PrimitiveTest(ProgramTest):

    def check(self, vector, expected):
        with self.subTest(vector=vector):
            self.assertEqual(self.call_for_integers(primitive, vector), expected)

    def test_multiples(self):
        self.check([2, 4], [1, 2])
        self.check([7], [1])
        self.check([6, 10, 15], [6, 10, 15])
        self.check([12, 20, 30], [6, 10, 15])
        self.check([0, 0, 8, 0], [0, 0, 1, 0])
        self.check([5, 5, 5, 5, 5, 5], [1, 1, 1, 1, 1, 1])

    def test_signs_stay(self):
        self.check([-2, 4], [-1, 2])
        self.check([-7], [-1])
        self.check([-3, -6, -9], [-1, -2, -3])
        self.check([0, -4, 6], [0, -2, 3])
        self.check([4, 0, -2], [2, 0, -1])

    def test_primitive_already(self):
        for vector in ([1], [-1], [3, 5], [0, 1, 0], [1, 1000000], [0, 0, 0, 0, 0, -1]):
            self.check(vector, vector)

    def test_zeros_stay(self):
        for size in range(7):
            self.check([0] * size, [0] * size)

    def test_great_numbers(self):
        self.check([1000000, -3000000, 500000], [2, -6, 1])
        self.check([6 * HUGE, -9 * HUGE], [2, -3])
        self.check([0, HUGE], [0, 1])
        self.check([HUGE, HUGE + 1], [HUGE, HUGE + 1])

    def test_many(self):
        rng = Random(3)
        for _ in range(300):
            size = rng.randint(1, 6)
            factor = rng.choice([1, 2, 6, 35, 1000000, HUGE])
            vector = [factor * rng.randint(-6, 6) for _ in range(size)]
            with self.subTest(vector=vector):
                result = self.call_for_integers(primitive, vector)
                if any(vector):
                    divisor = gcd(*vector)
                    self.assertEqual(gcd(*result), 1)
                    self.assertEqual([item * divisor for item in result], vector)
                else:
                    self.assertEqual(result, vector)


class DotTest(ProgramTest):

    def test_examples(self):
        for first, second, expected in [
            ([], [], 0), ([3], [4], 12), ([3], [-4], -12), ([0], [5], 0),
            ([1, 2, 3], [4, 5, 6], 32), ([1, -1], [7, 7], 0), ([0, 0, 0], [1, 2, 3], 0),
            ([0, 0, 2, 0, 0, 0], [9, 9, -3, 9, 9, 9], -6),
            ([1000000, 1], [1000000, -1], 999999999999),
            ([HUGE, 1], [HUGE, 1], HUGE * HUGE + 1), ([HUGE, HUGE], [HUGE, -HUGE], 0),
        ]:
            with self.subTest(first=first, second=second):
                self.assertEqual(self.call_for_integers(dot, first, second), expected)
                self.assertEqual(self.call_for_integers(dot, second, first), expected)

    def test_many(self):
        rng = Random(4)
        for _ in range(200):
            size = rng.randint(0, 6)
            first = [rng.randint(-1000000, 1000000) for _ in range(size)]
            second = [rng.choice([0, 1, -1, rng.randint(-50, 50), HUGE]) for _ in range(size)]
            with self.subTest(first=first, second=second):
                self.assertEqual(self.call(dot, first, second), product_of(first, second))


class CombinedTest(ProgramTest):

    def test_examples(self):
        for first, vector, second, other, expected in [
            (1, [], 1, [], []), (2, [3], 5, [7], [41]), (1, [1, 2], 1, [10, 20], [11, 22]),
            (2, [1, 0, -1], -3, [1, 1, 1], [-1, -3, -5]),
            (0, [5, 6], 1, [1, 2], [1, 2]), (1, [5, 6], 0, [1, 2], [5, 6]),
            (0, [5, 6], 0, [1, 2], [0, 0]), (-1, [5, 6], 0, [1, 2], [-5, -6]),
            (3, [0, 0, 0], 4, [0, 0, 0], [0, 0, 0]), (2, [2, 4], 2, [2, 4], [8, 16]),
            (HUGE, [1, 0], -HUGE, [1, 1], [0, -HUGE]),
            (1000000, [1000000], 1, [-1], [999999999999]),
        ]:
            with self.subTest(first=first, vector=vector, second=second, other=other):
                result = self.call_for_integers(combined, first, vector, second, other)
                self.assertEqual(result, expected)

    def test_one_vector_twice(self):
        vector = [1, 2, 3]
        self.assertEqual(self.call(combined, 2, vector, -1, vector), [1, 2, 3])

    def test_many(self):
        rng = Random(5)
        for _ in range(200):
            size = rng.randint(0, 6)
            first, second = rng.randint(-4, 4), rng.choice([0, -1, 1, 17, -HUGE])
            vector = [rng.randint(-9, 9) for _ in range(size)]
            other = [rng.randint(-1000000, 1000000) for _ in range(size)]
            with self.subTest(first=first, vector=vector, second=second, other=other):
                result = self.call_for_integers(combined, first, vector, second, other)
                expected = [first * vector[k] + second * other[k] for k in range(size)]
                self.assertEqual(result, expected)


def random_rows(rng, size):
    """Return some vectors, often with zeros, doubles, multiples and sums among them."""
    high = rng.choice([1, 2, 5, 1000000])
    rows = [[rng.choice([0, rng.randint(-high, high)]) for _ in range(size)]
            for _ in range(rng.randint(0, 5))]
    for _ in range(rng.randint(0, 3)):
        if rows:
            first, second = rng.choice(rows), rng.choice(rows)
            left, right = rng.randint(-3, 3), rng.randint(-3, 3)
            rows.append([left * a + right * b for a, b in zip(first, second)])
    rng.shuffle(rows)
    return rows


class EchelonTest(ProgramTest):

    def check(self, rows, expected):
        with self.subTest(rows=rows):
            self.assertEqual(self.call_for_integers(echelon, rows), expected)

    def test_no_rows_and_zeros(self):
        self.check([], [])
        self.check([[]], [])
        self.check([[], []], [])
        self.check([[0]], [])
        self.check([[0, 0], [0, 0]], [])
        self.check([[0, 0, 0], [0, 2, 0], [0, 0, 0]], [[0, 1, 0]])

    def test_one_row(self):
        self.check([[5]], [[1]])
        self.check([[-5]], [[1]])
        self.check([[0, 3]], [[0, 1]])
        self.check([[2, 0]], [[1, 0]])
        self.check([[-2, 0, 0]], [[1, 0, 0]])
        self.check([[4, -6]], [[-2, 3]])
        self.check([[6, 0, -4, 2]], [[-3, 0, 2, -1]])
        self.check([[-1, 2, -3, 4, -5, 6]], [[-1, 2, -3, 4, -5, 6]])

    def test_doubles_multiples_negatives_and_sums(self):
        self.check([[1, 2], [1, 2]], [[1, 2]])
        self.check([[1, 2], [-1, -2], [3, 6]], [[1, 2]])
        self.check([[3], [5], [-2]], [[1]])
        self.check([[1, 1, 0], [0, 1, 1], [1, 2, 1]], [[1, 1, 0], [-1, 0, 1]])
        self.check([[0, 1, 1], [0, 1, -1]], [[0, 1, 0], [0, 0, 1]])

    def test_column_0_is_last(self):
        self.check([[1, 0, 0], [0, 0, 1], [0, 1, 0]], [[0, 1, 0], [0, 0, 1], [1, 0, 0]])
        self.check([[1, 1], [1, 0]], [[0, 1], [1, 0]])
        self.check([[1, 1, 1], [1, 0, 1]], [[0, 1, 0], [1, 0, 1]])
        self.check([[5, 0, 0, 7], [3, 0, 0, 0]], [[0, 0, 0, 1], [1, 0, 0, 0]])

    def test_rows_that_are_primitive_only_at_the_end(self):
        self.check([[0, 2, 3], [0, 0, 5]], [[0, 1, 0], [0, 0, 1]])
        self.check([[1, 2, 3, 4], [5, 6, 7, 9]], [[8, 4, 0, -1], [-2, 0, 2, 3]])
        self.check([[0, 2, 1], [1, 0, 3]], [[-1, 6, 0], [1, 0, 3]])

    def test_great_numbers(self):
        self.check([[HUGE, HUGE], [2 * HUGE, -HUGE]], [[0, 1], [1, 0]])
        self.check([[HUGE, 1, 0], [0, 1, HUGE]], [[HUGE, 1, 0], [-1, 0, 1]])
        self.check([[1000000, 999999], [999999, 999998]], [[0, 1], [1, 0]])

    def check_form(self, rows, size, result):
        """Check each part of the definition of echelon form on its own."""
        pivots = [pivot_of(row) for row in result]
        order = [columns(size).index(column) for column in pivots]
        self.assertEqual(order, sorted(set(order)), "pivots are not different and in order")
        for place, row in enumerate(result):
            self.assertEqual(len(row), size)
            self.assertEqual(gcd(*row), 1)
            self.assertGreater(row[pivots[place]], 0)
            for other, column in enumerate(pivots):
                if other != place:
                    self.assertEqual(row[column], 0)
        self.assertEqual(len(result), rank(rows, size))
        self.assertEqual(rank(rows + result, size), rank(rows, size))

    def test_each_part_of_the_definition(self):
        rng = Random(6)
        for _ in range(400):
            size = rng.randint(1, 7)
            rows = random_rows(rng, size)
            with self.subTest(rows=rows):
                result = self.call_for_integers(echelon, rows)
                self.check_form(rows, size, result)
                self.assertEqual(result, slow_echelon(rows, size))
                self.assertEqual(self.call(echelon, result), result)

    def test_same_span_gives_the_same_rows(self):
        rng = Random(7)
        for _ in range(200):
            size = rng.randint(1, 6)
            rows = random_rows(rng, size)
            factors = [rng.choice([-7, -1, 1, 2, HUGE]) for _ in rows]
            others = [[factor * item for item in row] for factor, row in zip(factors, rows)]
            for place, row in enumerate(others):
                for before in others[:place]:
                    factor = rng.randint(-2, 2)
                    row[:] = [a + factor * b for a, b in zip(row, before)]
            rng.shuffle(others)
            with self.subTest(rows=rows, others=others):
                self.assertEqual(echelon(others), echelon(rows))


class ReducedTest(ProgramTest):

    def check(self, vector, rows, expected):
        with self.subTest(vector=vector, rows=rows):
            self.assertEqual(self.call_for_integers(reduced, vector, rows), expected)

    def test_no_rows(self):
        self.check([], [], [])
        self.check([0, 0], [], [0, 0])
        self.check([2, -4, 6], [], [1, -2, 3])
        self.check([-1, 0], [], [-1, 0])

    def test_vectors_in_the_span(self):
        self.check([3], [[1]], [0])
        self.check([-2, 4], [[-1, 2]], [0, 0])
        self.check([0, 0], [[0, 1]], [0, 0])
        self.check([5, 7, -9], [[0, 1, 0], [0, 0, 1], [1, 0, 0]], [0, 0, 0])
        self.check([3, 2, 2], [[1, 1, 0], [1, 0, 2]], [0, 0, 0])

    def test_the_sign_stays(self):
        self.check([-4, 3], [[0, 1]], [-1, 0])
        self.check([4, -3], [[0, 1]], [1, 0])
        self.check([-4, 0, -6], [[0, 1, 0]], [-2, 0, -3])
        self.check([1, -1], [[0, 1]], [1, 0])
        self.check([1, -1], [[-3, 2]], [-1, 0])
        self.check([1, 1], [[-3, 2]], [1, 0])
        self.check([0, -1, 5], [[1, 3, 0]], [1, 0, 15])

    def test_fractions_of_rows(self):
        self.check([0, 1, 0], [[0, 2, 1]], [0, 0, -1])
        self.check([1, 1, 1, 1], [[3, 4, 0, 1], [1, 0, 4, 5]], [0, 0, 0, -1])
        self.check([HUGE, HUGE, 0], [[1, HUGE, 0]], [1, 0, 0])

    def test_the_last_pivot_may_be_column_0(self):
        self.check([7, 2, 4], [[1, 0, 0]], [0, 1, 2])
        self.check([-7, -2, -4], [[1, 0, 0]], [0, -1, -2])
        self.check([5, 0, 1], [[0, 0, 1], [1, 0, 0]], [0, 0, 0])

    def test_many(self):
        rng = Random(8)
        for _ in range(400):
            size = rng.randint(1, 6)
            rows = slow_echelon(random_rows(rng, size), size)
            vector = [rng.choice([0, rng.randint(-6, 6), 1000000]) for _ in range(size)]
            with self.subTest(vector=vector, rows=rows):
                result = self.call_for_integers(reduced, vector, rows)
                self.assertEqual(result, slow_reduced(vector, rows))
                for row in rows:
                    self.assertEqual(result[pivot_of(row)], 0)
                self.assertEqual(gcd(*result), 1 if any(result) else 0)

    def test_multiples_do_not_matter(self):
        rng = Random(9)
        for _ in range(200):
            size = rng.randint(1, 6)
            rows = slow_echelon(random_rows(rng, size), size)
            vector = [rng.randint(-5, 5) for _ in range(size)]
            factor = rng.choice([1, 2, 3, 10, HUGE])
            other = [factor * item for item in vector]
            for row in rows:
                more = rng.randint(-9, 9)
                other = [a + more * b for a, b in zip(other, row)]
            with self.subTest(vector=vector, other=other, rows=rows):
                self.assertEqual(reduced(other, rows), reduced(vector, rows))


if __name__ == "__main__":
    unittest.main()
