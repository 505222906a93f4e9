"""Vectors of integers, rows in echelon form, and fractions."""

from math import gcd

from floodmark.errors import OutOfRange


def primitive(vector):
    """Return the vector divided by the greatest common divisor of its items."""
    divisor = 0
    for item in vector:
        divisor = gcd(divisor, item)
    if divisor == 0:
        return list(vector)
    return [item // divisor for item in vector]


def dot(first, second):
    """Return the sum of the products of the items of two vectors."""
    return sum([one * other for one, other in zip(first, second)])


def combined(first, vector, second, other):
    """Return first * vector + second * other, item by item."""
    return [first * left + second * right for left, right in zip(vector, other)]


def column_order(size):
    """Return the columns in their order: column 0 is the last one."""
    if size == 0:
        return []
    return list(range(1, size)) + [0]


def pivot(vector):
    """Return the first column in the order of columns that is not 0, or None."""
    for column in column_order(len(vector)):
        if vector[column] != 0:
            return column
    return None


def cleared(vector, row, column):
    """Return the vector with a multiple of the row added, primitive and 0 in the column."""
    # The row's item is positive here, so the vector keeps its direction.
    return primitive(combined(row[column], vector, -vector[column], row))


def echelon(rows):
    """Return the list in echelon form that has the same span as the rows."""
    size = len(rows[0]) if rows else 0
    left = [primitive(row) for row in rows]
    found = []
    for column in column_order(size):
        candidates = [other for other in left if other[column] != 0]
        if candidates:
            row = candidates[0]
            if row[column] < 0:
                row = [-item for item in row]
            # The chosen row itself is among those left and becomes zeros.
            left = [cleared(other, row, column) for other in left]
            found = [cleared(other, row, column) for other in found] + [row]
    return found


def reduced(vector, rows):
    """Return the vector reduced by rows in echelon form."""
    result = primitive(vector)
    for row in rows:
        result = cleared(result, row, pivot(row))
    return result


def fraction(top, low):
    """Return top divided by low as a tuple (top, low) in lowest terms with low >= 1."""
    if low == 0:
        raise OutOfRange("a fraction has the denominator 0")
    divisor = gcd(top, low)
    if low < 0:
        divisor = -divisor
    return top // divisor, low // divisor


def is_less(first, second):
    """Return True if the first fraction is less than the second one, otherwise False."""
    return first[0] * second[1] < second[0] * first[1]


def placed(vector, before, after):
    """Return the vector with zeros inserted after item 0 and zeros added at the end."""
    return vector[:1] + [0] * before + vector[1:] + [0] * after
