"""Slow and simple versions of what the program computes, written over fractions."""

from fractions import Fraction
from itertools import combinations
from math import gcd, lcm


def product_of(first, second):
    total = 0
    for place in range(len(first)):
        total += first[place] * second[place]
    return total


def columns(size):
    return [*range(1, size), 0] if size else []


def pivot_of(vector):
    """Return the first column that is not 0, or None."""
    for column in columns(len(vector)):
        if vector[column] != 0:
            return column
    return None


def as_primitive(vector):
    """Return the primitive vector of integers that is a positive multiple, or zeros."""
    factor = lcm(*[Fraction(item).denominator for item in vector])
    whole = [int(item * factor) for item in vector]
    divisor = gcd(*whole)
    return [item // divisor for item in whole] if divisor else whole


def solved(rows, size):
    """Return the reduced rows over the fractions, each with 1 in its pivot column."""
    left = [[Fraction(item) for item in row] for row in rows]
    done = []
    for column in columns(size):
        chosen = next((row for row in left if row[column] != 0), None)
        if chosen is None:
            continue
        left = [row for row in left if row is not chosen]
        chosen = [item / chosen[column] for item in chosen]
        left = [without(row, chosen, column) for row in left]
        done = [without(row, chosen, column) for row in done] + [chosen]
    return done


def without(row, chosen, column):
    return [item - row[column] * other for item, other in zip(row, chosen)]


def slow_echelon(rows, size):
    return [as_primitive(row) for row in solved(rows, size)]


def rank(rows, size):
    return len(solved(rows, size))


def null_space(rows, size):
    """Return vectors that span all vectors whose product with each row is 0."""
    done = solved(rows, size)
    pivots = [pivot_of(row) for row in done]
    found = []
    for free in range(size):
        if free not in pivots:
            vector = [Fraction(0)] * size
            vector[free] = Fraction(1)
            for row, column in zip(done, pivots):
                vector[column] = -row[free]
            found.append(vector)
    return found


def slow_reduced(vector, rows):
    """Return the vector reduced by rows in echelon form."""
    rest = [Fraction(item) for item in vector]
    for row in rows:
        column = pivot_of(row)
        factor = rest[column] / row[column]
        rest = [item - factor * other for item, other in zip(rest, row)]
    return as_primitive(rest)


def holds(equations, conditions, vector):
    """Return True if a vector is in the cone of the equations and conditions."""
    return (all(product_of(row, vector) == 0 for row in equations)
            and all(product_of(row, vector) >= 0 for row in conditions))


def slow_dual(equations, conditions, size):
    """Return the lines and rays of a cone: each ray lies where enough conditions are tight."""
    lines = slow_echelon(null_space(equations + conditions, size), size)
    missing = size - len(lines) - 1 - rank(equations, size)
    found = []
    for chosen in combinations(conditions, max(missing, 0)):
        space = null_space(equations + list(chosen), size)
        if missing >= 0 and len(space) == len(lines) + 1:
            for vector in space:
                ray = slow_reduced(vector, lines)
                for candidate in (ray, [-item for item in ray]):
                    if any(ray) and candidate not in found and holds(equations, conditions, candidate):
                        found.append(candidate)
    return lines, sorted(found)


def front(n):
    return [1] + [0] * n


def both_ways(equations):
    """Return conditions that say what the equations say."""
    return [row for equation in equations for row in (equation, [-item for item in equation])]


def slow_polyhedron(n, conditions, equations=()):
    """Return the representation of a polyhedron, or None, as it is defined."""
    lines, rays = slow_dual(list(equations), list(conditions) + [front(n)], n + 1)
    if all(ray[0] == 0 for ray in rays):
        return None
    return slow_spanned(n, rays, lines)


def slow_spanned(n, rays, lines):
    """Return the representation of the polyhedron whose cone has these rays and lines."""
    equations, facets = slow_dual(list(lines), list(rays), n + 1)
    return n, equations, [facet for facet in facets if facet != front(n)]


def divided(row):
    divisor = gcd(*row)
    return [item // divisor for item in row] if divisor else row


def without_column(conditions, column):
    """Return what holds for the other columns where some value of this one satisfies all."""
    above = [row for row in conditions if row[column] > 0]
    below = [row for row in conditions if row[column] < 0]
    rows = [row for row in conditions if row[column] == 0]
    for high in above:
        for low in below:
            rows.append([high[column] * a - low[column] * b for a, b in zip(low, high)])
    rows = [divided(row[:column] + row[column + 1:]) for row in rows]
    # A row that says only that a positive number is at least 0 is of no use.
    return [list(row) for row in sorted({tuple(row) for row in rows}) if any(row[1:]) or row[0] < 0]


def without_last(conditions, many):
    """Return what holds for the first columns where some values of the last ones satisfy all."""
    for _ in range(many):
        conditions = without_column(conditions, len(conditions[0]) - 1) if conditions else []
    return conditions


def can_hold(conditions, size):
    """Return True if there are values of the columns 1 to size - 1 that satisfy all."""
    return all(row[0] >= 0 for row in without_last(conditions, size - 1))


def value_at(condition, point):
    """Return the dot product of a condition and (1, x1, ..., xn) as a fraction."""
    return Fraction(product_of(condition, point), point[0])


def slow_least(conditions, condition):
    """Return the least value of a condition where some others hold, or None."""
    size = len(condition)
    # A new column 1 stands for the value.
    rows = [[row[0], 0, *row[1:]] for row in conditions]
    rows += both_ways([[-condition[0], 1, *[-item for item in condition[1:]]]])
    bounds = [Fraction(-row[0], row[1]) for row in without_last(rows, size - 1) if row[1] > 0]
    return max(bounds, default=None)


def conditions_in(region):
    """Return conditions that hold at just the points of a polyhedron."""
    _, equations, facets = region
    return facets + both_ways(equations)


def moved_back(condition, directions):
    """Return a condition, with a column for the multiple of each direction at the end.

    It holds for y and the multiples where the condition holds for y minus their sum.
    """
    return condition + [-product_of(condition, direction) for direction in directions]


def slow_extended(conditions, directions):
    """Return the conditions of the sums of a point and multiples of the directions."""
    many = len(directions)
    rows = [moved_back(row, directions) for row in conditions]
    size = len(directions[0]) if directions else 0
    rows += [[0] * (size + place) + [1] + [0] * (many - place - 1) for place in range(many)]
    return without_last(rows, many)


def wide(condition, before, after):
    """Return a condition with new columns of zeros behind column 0 and at the end."""
    return [condition[0], *[0] * before, *condition[1:], *[0] * after]


def turned(conditions, many):
    """Return the conditions with the first columns behind column 0 moved to the end."""
    return [[row[0], *row[many + 1:], *row[1:many + 1]] for row in conditions]
