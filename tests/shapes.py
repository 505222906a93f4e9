"""Random conditions, points and polyhedra, for the tests."""

from tests.slow import as_primitive


def unit(size, place, item=1):
    return [item if column == place else 0 for column in range(size)]


def random_vector(rng, size, high):
    return [rng.choice([0, rng.randint(-high, high)]) for _ in range(size)]


def random_conditions(rng, n, many):
    """Return conditions in n variables, often with doubles, negatives and sums among them."""
    high = rng.choice([1, 2, 3, 9])
    found = [[rng.randint(-2, 6)] + random_vector(rng, n, high) for _ in range(many)]
    for _ in range(rng.choice([0, 0, 1, 2])):
        if found:
            first, second = rng.choice(found), rng.choice(found)
            left, right = rng.choice([(1, 1), (2, 3), (-1, 0), (5, 0), (0, 0)])
            found.append([left * a + right * b for a, b in zip(first, second)])
    rng.shuffle(found)
    return found


def random_point(rng, n, high=5):
    """Return a point whose coordinates are fractions with one denominator."""
    return as_primitive([rng.choice([1, 1, 2, 3])] + [rng.randint(-high, high) for _ in range(n)])


def random_direction(rng, n):
    """Return a direction; n is at least 1."""
    vector = [0] * (n + 1)
    while not any(vector):
        vector = [0] + random_vector(rng, n, 3)
    return as_primitive(vector)


def points_to_try(rng, n):
    return [random_point(rng, n, rng.choice([1, 2, 5, 30])) for _ in range(25)]


def box(bounds):
    """Return the conditions of a box from its pairs (low, high); None is no bound."""
    found = []
    for place, (low, high) in enumerate(bounds):
        if low is not None:
            found.append(unit(len(bounds) + 1, place + 1))
            found[-1][0] = -low
        if high is not None:
            found.append(unit(len(bounds) + 1, place + 1, -1))
            found[-1][0] = high
    return found
