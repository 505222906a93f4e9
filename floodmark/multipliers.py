"""Multipliers that show that a condition follows from others, found by the simplex method.

The unknown factors, and last the amount by which item 0 may be greater than it has to be, are
the columns of a table; its last column is what the rows add up to. Each row is kept as integers
and stands for any positive multiple of itself.
"""

from math import lcm

from floodmark.vectors import cleared, combined, fraction, is_less


def are_multipliers(conditions, target, multipliers):
    """Return True if the scale and the factors show that the target follows, otherwise False."""
    scale, factors = multipliers
    if scale < 1 or len(factors) != len(conditions) or any([factor < 0 for factor in factors]):
        return False
    rest = [scale * item for item in target]
    for factor, condition in zip(factors, conditions):
        rest = combined(1, rest, -factor, condition)
    return rest[0] >= 0 and not any(rest[1:])


def table_of(conditions, target):
    """Return a row for each item of the target, with a last item that is not negative."""
    rows = []
    for place, item in enumerate(target):
        row = [condition[place] for condition in conditions] + [1 if place == 0 else 0, item]
        rows.append(row if item >= 0 else [-entry for entry in row])
    return rows


def row_to_leave(rows, basis, column):
    """Return the index of the row that bounds the column most; of several, the least in the basis."""
    best = None
    least = None
    for place, row in enumerate(rows):
        if row[column] > 0:
            bound = (row[-1], row[column])
            closer = best is None or is_less(bound, least)
            if closer or (not is_less(least, bound) and basis[place] < basis[best]):
                best = place
                least = bound
    return best


def solved_table(rows):
    """Return the rows and the basis of a solution, or None if no factors of at least 0 are one.

    The basis has a column for each row. A column of -1 stands for what a row still lacks; the
    goal row is the sum of what all rows lack.
    """
    goal = [sum([row[column] for row in rows]) for column in range(len(rows[0]))]
    basis = [-1] * len(rows)
    while goal[-1] > 0:
        # To take the first column that helps, and the least one of the basis, avoids cycles.
        columns = [column for column in range(len(goal) - 1) if goal[column] > 0]
        if not columns:
            return None
        column = columns[0]
        place = row_to_leave(rows, basis, column)
        chosen = rows[place]
        rows = [cleared(row, chosen, column) for row in rows]
        rows[place] = chosen
        goal = cleared(goal, chosen, column)
        basis[place] = column
    return rows, basis


def find_multipliers(conditions, target):
    """Return multipliers by which the target follows from the conditions, or None if there are none."""
    solution = solved_table(table_of(conditions, target))
    if solution is None:
        return None
    rows, basis = solution
    # What is not in the basis is 0.
    values = [(0, 1)] * (len(conditions) + 1)
    for row, column in zip(rows, basis):
        if column >= 0:
            values[column] = fraction(row[-1], row[column])
    factors = values[:-1]
    scale = 1
    for _, low in factors:
        scale = lcm(scale, low)
    return scale, [top * (scale // low) for top, low in factors]
