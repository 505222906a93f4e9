"""Certificates for the tests: a slow checker, examples, and all small changes of a certificate."""

from floodmark.poly import polyhedron
from tests.examples import same
from tests.shapes import box, unit
from tests.slow import as_primitive, product_of, wide


def slow_conditions(region):
    _, equations, facets = region
    found = list(facets)
    for row in equations:
        found += [row, [-item for item in row]]
    return found


def slow_directions(system, location):
    rates = system[2][location][1]
    return [as_primitive([0, *rate[1:]]) for rate in rates if any(rate[1:])]


def raised(row, directions):
    return row + [product_of(row, direction) for direction in directions]


def slow_start_premises(system, start):
    location, region = system[4][start]
    return slow_conditions(region) + system[2][location][0]


def slow_wait_premises(system, location, piece):
    invariant = system[2][location][0]
    directions = slow_directions(system, location)
    many = len(directions)
    rows = [wide(row, 0, many) for row in piece] + [wide(row, 0, many) for row in invariant]
    for place in range(many):
        rows.append(unit(system[0] + 1 + many, system[0] + 1 + place))
    return rows + [raised(row, directions) for row in invariant]


def slow_jump_premises(system, jump, piece):
    n, _, locations, jumps, _ = system
    source, target, relation = jumps[jump]
    rows = [wide(row, 0, n) for row in piece] + [wide(row, 0, n) for row in locations[source][0]]
    return rows + relation + [wide(row, n, 0) for row in locations[target][0]]


def slow_goal_premises(system, goal, piece):
    location, region = goal
    return piece + system[2][location][0] + slow_conditions(region)


def slow_show(premises, targets, found):
    """Return True if there are multipliers for each target, as point 24 describes them."""
    if len(targets) != len(found):
        return False
    for target, (scale, factors) in zip(targets, found):
        if scale < 1 or len(factors) != len(premises) or min(factors, default=0) < 0:
            return False
        rest = [scale * item for item in target]
        for factor, row in zip(factors, premises):
            rest = [item - factor * other for item, other in zip(rest, row)]
        if rest[0] < 0 or rest[1:] != [0] * len(rest[1:]):
            return False
    return True


def slow_accepts(system, goals, certificate):
    """Return True if the certificate is as points 27 and 28 say."""
    pieces, starts, waits, jumps, ends = certificate
    n = system[0]
    many = [len(row) for row in pieces]
    if len(many) != len(system[2]) or len(starts) != len(system[4]):
        return False
    if [len(row) for row in waits] != many or any(
            len(condition) != n + 1 for row in pieces for piece in row for condition in piece):
        return False
    if ([len(row) for row in jumps] != [many[source] for source, _, _ in system[3]]
            or [len(row) for row in ends] != [many[location] for location, _ in goals]):
        return False
    return all(slow_answers(system, goals, certificate))


def slow_answers(system, goals, certificate):
    """Yield for each claim of a certificate of the right form whether it is right."""
    pieces, starts, waits, jumps, ends = certificate
    n = system[0]
    for start, (index, found) in enumerate(starts):
        those = pieces[system[4][start][0]]
        premises = slow_start_premises(system, start)
        if index is None:
            yield slow_show(premises, [[-1] + [0] * n], found)
        else:
            yield 0 <= index < len(those) and slow_show(premises, those[index], found)
    for location, row in enumerate(waits):
        for place, (index, found) in enumerate(row):
            piece = pieces[location][place]
            targets = [raised(condition, slow_directions(system, location)) for condition in piece]
            yield index == place and slow_show(slow_wait_premises(system, location, piece), targets, found)
    for jump, row in enumerate(jumps):
        source, target, _ = system[3][jump]
        for piece, (index, found) in zip(pieces[source], row):
            premises = slow_jump_premises(system, jump, piece)
            if index is None:
                yield slow_show(premises, [[-1] + [0] * (2 * n)], found)
            else:
                yield 0 <= index < len(pieces[target]) and slow_show(
                    premises, [wide(condition, n, 0) for condition in pieces[target][index]], found)
    for goal, row in zip(goals, ends):
        for piece, (index, found) in zip(pieces[goal[0]], row):
            yield index is None and slow_show(slow_goal_premises(system, goal, piece), [[-1] + [0] * n], found)


def changed(value):
    """Return all values in which one number, one index or the length of one list is another one.

    Some of the values have other multipliers that say the same.
    """
    if value is None:
        return [0, 1, -1]
    if isinstance(value, int):
        return [item for item in (value + 1, value - 1, 0, -value, value + 10 ** 9) if item != value]
    found = []
    for place, item in enumerate(value):
        for other in changed(item):
            found.append(value[:place] + type(value)([other]) + value[place + 1:])
    if isinstance(value, list):
        found += [value + [1]] if value and isinstance(value[0], int) else []
        found += [value[:place] + value[place + 1:] for place in range(len(value))]
        found += [value[:place] + [value[place], *value[place:]] for place in range(len(value))]
    elif len(value) == 2 and isinstance(value[1], list) and isinstance(value[0], int):
        # A claim may also have None as its index, a scale may not.
        if not value[1] or isinstance(value[1][0], tuple):
            found.append((None, value[1]))
        else:
            found.append((3 * value[0], [3 * item for item in value[1]]))
    return found


# A level that rises to 10 at most. The jump at 8 or above leads to where it does not change.
LAMP = (
    1, 0,
    [([[10, -1]], [[1, 1]]), ([], [[1, 0]])],
    [(0, 1, [[-8, 1, 0], *same(1)])],
    [(0, polyhedron(1, box([(0, 1)])))],
)
LAMP_GOALS = [(1, polyhedron(1, box([(None, 7)])))]

# At location 0 there is one piece without conditions; at location 1 the level is at least 8.
LAMP_PROOF = (
    [[[]], [[[-8, 1]]]],
    [(0, [])],
    [[(0, [])], [(0, [(1, [1])])]],
    [[(0, [(1, [0, 1, 1, 0])])]],
    [[(None, [(1, [1, 1])])]],
)

# Two variables, where 2 x + y <= 6 and x <= 4 at location 0. The first and the last rate have one
# direction, in which x rises and y falls; the third one is 0. Jump 0 to location 2 is never possible,
# as x had to be at least 5; jump 1 keeps both variables, and jump 2 lowers x and takes 2/3 of y.
RAMP = (
    2, 0,
    [
        ([[4, -1, 0], [6, -2, -1]], [[2, 1, -2], [2, 3, 0], [1, 0, 0], [1, 1, -2]]),
        ([], [[1, 1, 1]]),
        ([[-1, 0, 1]], [[1, 0, 0]]),
    ],
    [
        (0, 2, [[-5, 1, 0, 0, 0]]),
        (1, 1, same(2)),
        (0, 0, [[0, 1, 0, -1, 0], [0, 0, 2, 0, -3], [0, 0, 0, 1, 0]]),
    ],
    [(0, polyhedron(2, box([(1, 2), (0, 0)]))), (1, polyhedron(2, box([(3, 3), (3, None)]))),
     (2, polyhedron(2, box([(0, 0), (None, 0)])))],
)
RAMP_GOALS = [(0, polyhedron(2, box([(-5, -1), (None, None)]))), (2, (2, [], [])),
              (1, polyhedron(2, [[-1, -1, -1]])), (0, polyhedron(2, box([(None, None), (1, 1)])))]
