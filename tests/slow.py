"""Slow and simple versions of what the program computes, written over fractions."""

from fractions import Fraction
from itertools import combinations
from math import gcd, lcm


def product_of(first, second):
    total = 0
    for place in range(len(first)):
        total += first[place] * second[place]
    return total


def columns(size):
    return [*range(1, size), 0] if size else []


def pivot_of(vector):
    """Return the first column that is not 0, or None."""
    for column in columns(len(vector)):
        if vector[column] != 0:
            return column
    return None


def as_primitive(vector):
    """Return the primitive vector of integers that is a positive multiple, or zeros."""
    factor = lcm(*[Fraction(item).denominator for item in vector])
    whole = [int(item * factor) for item in vector]
    divisor = gcd(*whole)
    return [item // divisor for item in whole] if divisor else whole


def solved(rows, size):
    """Return the reduced rows over the fractions, each with 1 in its pivot column."""
    left = [[Fraction(item) for item in row] for row in rows]
    done = []
    for column in columns(size):
        chosen = next((row for row in left if row[column] != 0), None)
        if chosen is None:
            continue
        left = [row for row in left if row is not chosen]
        chosen = [item / chosen[column] for item in chosen]
        left = [without(row, chosen, column) for row in left]
        done = [without(row, chosen, column) for row in done] + [chosen]
    return done


def without(row, chosen, column):
    return [item - row[column] * other for item, other in zip(row, chosen)]


def slow_echelon(rows, size):
    return [as_primitive(row) for row in solved(rows, size)]


def rank(rows, size):
    return len(solved(rows, size))


def null_space(rows, size):
    """Return vectors that span all vectors whose product with each row is 0."""
    done = solved(rows, size)
    pivots = [pivot_of(row) for row in done]
    found = []
    for free in range(size):
        if free not in pivots:
            vector = [Fraction(0)] * size
            vector[free] = Fraction(1)
            for row, column in zip(done, pivots):
                vector[column] = -row[free]
            found.append(vector)
    return found


def slow_reduced(vector, rows):
    """Return the vector reduced by rows in echelon form."""
    rest = [Fraction(item) for item in vector]
    for row in rows:
        column = pivot_of(row)
        factor = rest[column] / row[column]
        rest = [item - factor * other for item, other in zip(rest, row)]
    return as_primitive(rest)


def holds(equations, conditions, vector):
    """Return True if a vector is in the cone of the equations and conditions."""
    return (all(product_of(row, vector) == 0 for row in equations)
            and all(product_of(row, vector) >= 0 for row in conditions))


def slow_dual(equations, conditions, size):
    """Return the lines and rays of a cone: each ray lies where enough conditions are tight."""
    lines = slow_echelon(null_space(equations + conditions, size), size)
    missing = size - len(lines) - 1 - rank(equations, size)
    found = []
    for chosen in combinations(conditions, max(missing, 0)):
        space = null_space(equations + list(chosen), size)
        if missing >= 0 and len(space) == len(lines) + 1:
            for vector in space:
                ray = slow_reduced(vector, lines)
                for candidate in (ray, [-item for item in ray]):
                    if any(ray) and candidate not in found and holds(equations, conditions, candidate):
                        found.append(candidate)
    return lines, sorted(found)
