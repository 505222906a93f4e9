"""Point 24: multipliers by which a condition follows from others."""

import unittest
from random import Random

from floodmark.multipliers import are_multipliers, find_multipliers
from tests.checking import ProgramTest
from tests.shapes import box, random_conditions, random_vector, unit
from tests.slow import can_hold, front, product_of, slow_dual, slow_least


def never(n):
    return [-1] + [0] * n


def show(conditions, target, multipliers):
    """Return True if the multipliers are as point 24 says."""
    scale, factors = multipliers
    if scale < 1 or len(factors) != len(conditions) or min(factors, default=0) < 0:
        return False
    rest = []
    for place, item in enumerate(target):
        rest.append(scale * item - sum(factor * row[place] for factor, row in zip(factors, conditions)))
    return rest[0] >= 0 and rest[1:] == [0] * (len(target) - 1)


def are_there(conditions, target):
    """Return True if the target is at least 0 in the whole cone of the conditions and item 0."""
    size = len(target)
    lines, rays = slow_dual([], conditions + [front(size - 1)], size)
    return (all(product_of(target, line) == 0 for line in lines)
            and all(product_of(target, ray) >= 0 for ray in rays))


class AreMultipliersTest(ProgramTest):

    def check(self, conditions, target, multipliers, expected):
        with self.subTest(conditions=conditions, target=target, multipliers=multipliers):
            self.assertIs(self.call(are_multipliers, conditions, target, multipliers), expected)

    def test_examples(self):
        conditions = [[-3, 1, 0], [5, -1, 0], [0, 1, 1]]
        self.check(conditions, [-3, 1, 0], (1, [1, 0, 0]), True)
        self.check(conditions, [-2, 1, 0], (1, [1, 0, 0]), True)
        self.check(conditions, [-4, 1, 0], (1, [1, 0, 0]), False)
        self.check(conditions, [5, 0, 1], (1, [0, 1, 1]), True)
        self.check(conditions, [5, 0, 1], (1, [0, 1, 2]), False)
        self.check(conditions, [2, 0, 0], (1, [1, 1, 0]), True)
        self.check(conditions, [2, 0, 0], (1, [0, 0, 0]), True)
        self.check(conditions, [2, 0, 0], (1, [2, 2, 0]), False)

    def test_each_item_counts(self):
        conditions = [[0, 1, 0, 0], [0, 0, 1, 0], [0, 0, 0, 1]]
        self.check(conditions, [0, 2, 3, 4], (1, [2, 3, 4]), True)
        for place in range(3):
            for change in (-1, 1):
                factors = [2, 3, 4]
                factors[place] += change
                self.check(conditions, [0, 2, 3, 4], (1, factors), False)

    def test_scales(self):
        conditions = [[0, 2, 1], [0, 1, -1]]
        self.check(conditions, [0, 1, 0], (3, [1, 1]), True)
        self.check(conditions, [0, 1, 0], (6, [2, 2]), True)
        for scale in (-3, -1, 0, 1, 2, 4, 300):
            self.check(conditions, [0, 1, 0], (scale, [1, 1]), False)
        self.check(conditions, [0, 0, 0], (1, [0, 0]), True)
        self.check(conditions, [0, 0, 0], (0, [0, 0]), False)
        self.check(conditions, [0, 0, 0], (-1, [0, 0]), False)
        self.check(conditions, [1, -1, 0], (-3, [1, 1]), False)
        self.check([[-1, 1]], [1, -1], (-1, [1]), False)

    def test_negative_factors(self):
        self.check([[0, 1], [1, 1]], [0, -1], (1, [-1, 0]), False)
        self.check([[0, 1], [0, 1]], [0, 1], (1, [2, -1]), False)
        self.check([[0, 1], [0, 1]], [0, 1], (1, [1, 0]), True)
        self.check([[0, 0]], [0, 0], (1, [-1]), False)
        self.check([[0, 0]], [0, 0], (1, [7]), True)

    def test_a_wrong_number_of_factors(self):
        conditions = [[0, 1], [0, 0]]
        self.check(conditions, [0, 1], (1, [1, 0]), True)
        for factors in ([], [1], [1, 0, 0], [1, 0, 0, 0]):
            self.check(conditions, [0, 1], (1, factors), False)
        self.check([], [3, 0], (1, []), True)
        self.check([], [3, 0], (1, [0]), False)
        self.check([], [3, 0], (1, [5]), False)

    def test_conditions_that_hold_nowhere(self):
        conditions = [[-3, 1], [2, -1]]
        self.check(conditions, [-1, 0], (1, [1, 1]), True)
        self.check(conditions, [-1, 0], (5, [5, 5]), True)
        self.check(conditions, [-1, 0], (2, [1, 1]), False)
        self.check(conditions, [-9, 1], (1, [7, 6]), True)
        self.check(conditions, [-9, 1], (1, [6, 5]), False)

    def test_no_variables_and_large_numbers(self):
        self.check([[-2]], [-1], (1, [1]), True)
        self.check([[-2]], [-3], (1, [1]), False)
        self.check([[-2]], [-3], (2, [3]), True)
        high = 10 ** 40
        self.check([[-high, 1]], [-high - 1, 1], (1, [1]), False)
        self.check([[-high, 1]], [-high, 1], (1, [1]), True)
        self.check([[-high, 1]], [-high * high, high], (1, [high]), True)
        self.check([[-high, 1]], [-high * high - 1, high], (1, [high]), False)

    def test_long_vectors(self):
        for size in (10, 20, 50):
            rows = [unit(size, place) for place in range(size)]
            self.check(rows, list(range(size)), (1, list(range(size))), True)
            self.check(rows, list(range(size)), (1, [*range(size - 1), size]), False)

    def test_as_defined(self):
        rng = Random(241)
        seen = {True: 0, False: 0}
        for _ in range(400):
            size, many = rng.randint(1, 4), rng.randint(0, 3)
            conditions = [random_vector(rng, size, 2) for _ in range(many)]
            factors = [rng.choice([0, 1, 2, -1]) for _ in range(rng.choice([many, many, many, many + 1]))]
            scale = rng.choice([-1, 0, 1, 1, 2])
            target = [sum(factor * row[place] for factor, row in zip(factors, conditions)) for place in range(size)]
            target[0] += rng.choice([-1, 0, 1])
            if rng.random() < 0.3:
                target[-1] += 1
            expected = show(conditions, target, (scale, factors))
            self.check(conditions, target, (scale, factors), expected)
            seen[expected] += 1
        self.assertGreater(min(seen.values()), 40)


class FindMultipliersTest(ProgramTest):

    def check(self, conditions, target, expected):
        """Check whether there are multipliers, and that those that are found are right."""
        with self.subTest(conditions=conditions, target=target):
            found = self.call_for_integers(find_multipliers, conditions, target) if expected else None
            if found is None:
                self.assertEqual(self.call(find_multipliers, conditions, target) is not None, expected)
            else:
                self.assertIs(type(found), tuple)
                self.assertIs(type(found[1]), list)
                self.assertTrue(show(conditions, target, found), found)

    def test_examples(self):
        conditions = box([(3, 5), (0, None)]) + [[1, 2, -1]]
        for target in ([-3, 1, 0], [-2, 1, 0], [-6, 2, 0], [0, 0, 3], [11, 0, -1], [6, -1, 4], [0, 7, 0], [1, 0, 0]):
            self.check(conditions, target, True)
        for target in ([-4, 1, 0], [4, -1, 0], [-1, 0, 1], [10, 0, -1], [0, -1, 1], [-1, 0, 0], [-7, 2, 0]):
            self.check(conditions, target, False)

    def test_fractions_as_factors(self):
        # The first and 2 times the second condition say that the first variable is at least 3/7.
        self.check([[-1, 1, 2], [-1, 3, -1]], [-3, 7, 0], True)
        self.check([[-1, 1, 2], [-1, 3, -1]], [-1, 3, 0], True)
        self.check([[-1, 1, 2], [-1, 3, -1]], [-4, 9, 0], False)
        self.check([[-1, 1, 2], [-2, 6, -2]], [-3, 7, 0], True)
        self.check([[-5, 6, 0], [-7, 0, 15]], [-13, 10, 10], True)
        self.check([[-5, 6, 0], [-7, 0, 15]], [-14, 10, 10], False)

    def test_conditions_that_hold_nowhere(self):
        self.check([[-3, 1], [2, -1]], [-1, 0], True)
        self.check([[-3, 1], [3, -1]], [-1, 0], False)
        self.check([[-1, 0, 0]], [-1, 0, 0], True)
        self.check([[-1, 2, 3], [0, -2, -3]], [-1, 0, 0], True)
        self.check([[-1, 2, 3], [0, -2, -2]], [-1, 0, 0], False)
        # A condition may follow from nothing, or from what holds nowhere, or not be shown.
        self.check([[-3, 1, 0], [2, -1, 0]], [-100, 7, 0], True)
        self.check([[-3, 1, 0], [2, -1, 0]], [-100, 7, 1], False)

    def test_conditions_that_hold_nowhere_only_in_the_end(self):
        # Item 0 is at least 0, so a vector with a negative item 0 that is allowed says nothing.
        self.check([[-1]], [-5], True)
        self.check([[1]], [-5], False)
        self.check([[0]], [-1], False)
        self.check([[5]], [5], True)

    def test_no_conditions(self):
        for target in ([0], [4], [0, 0], [7, 0, 0], [0] * 12):
            self.check([], target, True)
        for target in ([-1], [0, 1], [3, 0, -1], [-1, 0, 0], [0] * 11 + [1]):
            self.check([], target, False)

    def test_conditions_of_zeros(self):
        self.check([[0, 0], [0, 0]], [0, 0], True)
        self.check([[0, 0], [0, 0]], [0, 1], False)
        self.check([[4, 0], [0, 0]], [2, 0], True)
        self.check([[4, 0], [0, 0]], [-1, 0], False)

    def test_equations_as_conditions(self):
        rows = [[1, 2, 3], [-1, -2, -3], [0, 1, -1], [0, -1, 1]]
        self.check(rows, [1, 5, 0], True)
        self.check(rows, [-1, -5, 0], True)
        self.check(rows, [0, 5, 0], False)
        self.check(rows, [2, 5, 0], True)

    def test_long_vectors(self):
        for size in (10, 13, 20, 30):
            rows = [[place, *unit(size, place)] for place in range(size)]
            self.check(rows, [sum(range(size)), *[1] * size], True)
            self.check(rows, [sum(range(size)) - 1, *[1] * size], False)
            self.check(rows + [never(size)], [-5, *[1] * size], True)
            chain = [[0] * (size + 1) for _ in range(size)]
            for place in range(size):
                chain[place][place + 1] = 1
                chain[place][place] = -1
            chain[0][0] = -1
            # Each variable is at least the one before it, the first one at least 1.
            self.check(chain, [-1, *unit(size, size - 1)], True)
            self.check(chain, [-2, *unit(size, size - 1)], False)
            self.check(chain + [[0, *unit(size, size - 1, -1)]], never(size), True)

    def test_large_numbers(self):
        high = 10 ** 30
        self.check([[-high, 1, 0], [high + 1, -1, 0]], [-high * high, high, 0], True)
        self.check([[-high, 1, 0], [high + 1, -1, 0]], [-high * high - 1, high, 0], False)
        self.check([[-high, high + 1], [high - 1, -high]], never(1), True)
        self.check([[-high, high + 1], [high, -high]], never(1), False)
        rng = Random(242)
        for _ in range(40):
            rows = [[rng.randint(-high, high) for _ in range(5)] for _ in range(8)]
            factors = [rng.choice([0, rng.randint(1, high)]) for _ in rows]
            target = [sum(factor * row[place] for factor, row in zip(factors, rows)) for place in range(5)]
            target[0] += rng.choice([0, 1])
            self.check(rows, target, True)

    def test_conditions_of_systems_at_the_bounds(self):
        rng = Random(243)
        for _ in range(15):
            point = [1] + [rng.randint(-3, 3) for _ in range(11)]
            rows = []
            for _ in range(45):
                row = [0] + [rng.randint(-10 ** 6, 10 ** 6) for _ in range(11)]
                row[0] = rng.randint(0, 9) - product_of(row, point)
                rows.append(row)
            factors = [rng.choice([0, 0, rng.randint(1, 9)]) for _ in rows]
            target = [sum(factor * row[place] for factor, row in zip(factors, rows)) for place in range(12)]
            self.check(rows, target, True)
            target[0] -= product_of(target, point) + 1
            self.check(rows, target, False)

    def test_rows_that_may_lead_in_circles(self):
        # The example of Beale, for which some rules of the simplex method do not end.
        rows = [[0, 1, 2, 0, -3], [0, -240, -360, 0, 80], [0, -4, -2, 4, 2], [0, 36, 12, 0, -24],
                [0, 4, 0, 0, 0], [0, 0, 4, 0, 0], [0, 0, 0, 4, 0]]
        for target in ([0, 0, 0, 1, 0], [5, 0, 0, 1, 0], [5, -1, 0, 0, 0], [0, 1, 1, 1, 1]):
            self.check(rows, target, are_there(rows, target))
        rng = Random(244)
        for _ in range(150):
            size = rng.randint(4, 7)
            rows = [[rng.choice([0, 0, 1, -1]) for _ in range(size)] for _ in range(rng.randint(6, 25))]
            target = [rng.choice([0, 0, 1, -1]) for _ in range(size)]
            found = find_multipliers(rows, target)
            if found is not None:
                self.assertTrue(show(rows, target, found))

    def test_as_the_least_value_says(self):
        rng = Random(245)
        seen = {True: 0, False: 0}
        for _ in range(300):
            n = rng.randint(0, 3)
            rows = random_conditions(rng, n, rng.randint(0, 5))
            target = [rng.randint(-3, 6), *random_vector(rng, n, 3)]
            self.check(rows, never(n), not can_hold(rows, n + 1))
            if can_hold(rows, n + 1):
                least = slow_least(rows, target)
                expected = least is not None and least >= 0
                self.check(rows, target, expected)
                seen[expected] += 1
        self.assertGreater(min(seen.values()), 50)

    def test_as_the_cone_says(self):
        rng = Random(246)
        seen = {True: 0, False: 0}
        for _ in range(300):
            size, high = rng.randint(1, 4), rng.choice([1, 3])
            rows = [random_vector(rng, size, high) for _ in range(rng.randint(0, 6))]
            target = random_vector(rng, size, 2)
            expected = are_there(rows, target)
            self.check(rows, target, expected)
            seen[expected] += 1
        self.assertGreater(min(seen.values()), 80)


if __name__ == "__main__":
    unittest.main()
