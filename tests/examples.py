"""Systems for the tests."""

from floodmark.poly import generators, polyhedron
from tests.shapes import box, random_point, random_vector, unit
from tests.slow import as_primitive, both_ways


def kept(n, fixed):
    """Return the conditions of a relation which say that the parameters stay."""
    rows = []
    for place in range(1, fixed + 1):
        row = [0] * (2 * n + 1)
        row[place], row[n + place] = -1, 1
        rows.append(row)
    return both_ways(rows)


def same(n, first=0):
    """Return the conditions of a relation which say that all values but the first ones stay."""
    return kept(n, n)[2 * first:]


# A tank with one level: it fills at 1 to 2 up to 10, and drains at 1 down to 2. The pump is
# switched off from 8 on, and on at 3 at the latest. A leak empties the tank at once.
TANK = (
    1, 0,
    [
        ([[10, -1]], [[1, 1], [1, 2]]),
        ([[-2, 1]], [[1, -1]]),
        ([], [[1, 0]]),
    ],
    [
        (0, 1, [[-8, 1, 0], *same(1)]),
        (1, 0, [[3, -1, 0], *same(1)]),
        (1, 2, [[0, 0, 1], [0, 0, -1]]),
    ],
    [(0, polyhedron(1, box([(0, 1)])))],
)

# A parameter p from 1 to 5, a quantity x and a clock c. At location 0, x rises by 1/2 to 2 per
# unit of the clock while x <= p; the jump halves x and sets the clock to 0. At location 1
# nothing changes. The invariant of location 2 holds nowhere.
CLOCK = (
    3, 1,
    [
        ([[-1, 1, 0, 0], [5, -1, 0, 0], [0, 1, -1, 0]], [[2, 0, 1, 2], [1, 0, 2, 1]]),
        ([], [[1, 0, 0, 0], [1, 0, 0, 0]]),
        ([[-1, 0, 1, 0], [0, 0, -1, 0]], [[1, 0, 1, 0]]),
    ],
    [
        (0, 0, [*kept(3, 1), *both_ways([[0, 0, -1, 0, 0, 2, 0], [0, 0, 0, 0, 0, 0, 1]])]),
        (0, 1, [*kept(3, 1), [0, -1, 1, 0, 0, 0, 0], *same(3, 1)]),
        (1, 2, [*kept(3, 1)]),
    ],
    [(0, polyhedron(3, box([(1, 5), (0, 0), (0, 0)]))), (1, polyhedron(3, box([(2, 2), (0, None), (None, 7)])))],
)

# Nothing but one location: no variables, no jumps, no starts.
STILL = (0, 0, [([], [[1]])], [], [])

NO_VARIABLES = (
    0, 0,
    [([[3]], [[1]]), ([[0]], [[1], [1]]), ([[-1]], [[1]])],
    [(0, 1, [[2]]), (1, 0, [[-1]]), (0, 2, [])],
    [(0, (0, [], [])), (2, (0, [], []))],
)


def at_the_bounds():
    """Return a valid system in which each number is as great as point 15 allows."""
    high = 1000000
    invariant = [[high, -high, high, -high]] * 12
    rates = [[high, 0, high - 1, -high], [1, 0, -high, high], [high, 0, 1, 0], [1, 0, 0, 0]] * 2
    locations = [(invariant, rates) for _ in range(8)]
    relation = kept(3, 1) + [[-high, high, -high, high, -high, high, -high]] * 22
    jumps = [(place % 8, (7 - place) % 8, relation) for place in range(24)]
    great = polyhedron(3, [[-high * high, 0, 1, 0]])
    return 3, 1, locations, jumps, [(place, great) for place in range(8)]


VALID = {"tank": TANK, "clock": CLOCK, "still": STILL, "no variables": NO_VARIABLES,
         "bounds": at_the_bounds()}


def random_rate(rng, n, fixed):
    vector = [rng.choice([1, 1, 2]), *[0] * fixed, *random_vector(rng, n - fixed, 3)]
    return as_primitive(vector)


def random_system(rng, locations=2, jumps=2):
    """Return a valid system with few conditions, which hold at many small points."""
    n = rng.randint(0, 3)
    fixed = rng.choice([0, 0, rng.randint(0, n)])
    rows = []
    for _ in range(locations):
        invariant = [[rng.randint(0, 6), *random_vector(rng, n, 2)] for _ in range(rng.randint(0, 2))]
        rates = [random_rate(rng, n, fixed) for _ in range(rng.randint(1, 3))]
        rows.append((invariant, rates))
    found = []
    for _ in range(jumps):
        relation = kept(n, fixed)
        for place in range(fixed, n):
            relation += random_relation(rng, n, place)
        found.append((rng.randrange(locations), rng.randrange(locations), relation))
    return n, fixed, rows, found, []


def random_relation(rng, n, place):
    """Return some conditions for the new value of a variable."""
    kind = rng.choice(["free", "same", "set", "more", "any"])
    row = unit(2 * n + 1, n + 1 + place)
    if kind == "free":
        return []
    if kind == "any":
        return [[rng.randint(0, 4), *random_vector(rng, 2 * n, 2)]]
    if kind == "set":
        row[0] = rng.randint(-2, 2)
        return both_ways([row])
    row[place + 1] = -1
    return [row] if kind == "more" else both_ways([row])


def random_points(rng, n, many):
    return [random_point(rng, n, 3) for _ in range(many)]


def random_region(rng, n):
    """Return a polyhedron around a small point, often with rays or lines."""
    while True:
        bounds = []
        for _ in range(n):
            low = rng.choice([None, rng.randint(-3, 2)])
            bounds.append((low, rng.choice([None, (low or 0) + rng.randint(0, 3)])))
        rows = box(bounds) + [[rng.randint(-1, 5), *random_vector(rng, n, 2)]]
        region = polyhedron(n, rows)
        if region is not None:
            return region


def random_update(rng, n, place):
    """Return conditions that say what the new value of a variable is, often more or less."""
    row = [rng.randint(-2, 2), *random_vector(rng, n, 1), *unit(n, place, rng.choice([1, 1, 1, 2]))]
    row[place + 1] = rng.choice([-1, -1, -1, 1])
    if rng.random() < 0.1:
        return [row]
    return both_ways([row])


def random_started_system(rng):
    """Return a valid system with starts, in which searches often have several layers."""
    n = rng.choice([0, 1, 1, 1, 2, 2, 2, 3])
    fixed = rng.choice([0, 0, rng.randint(0, n)])
    many = rng.choice([1, 1, 2, 3])
    locations = []
    for _ in range(many):
        invariant = box([(-rng.randint(2, 8), rng.randint(2, 8)) for _ in range(n)])
        invariant += [[rng.randint(2, 9), *random_vector(rng, n, 2)] for _ in range(rng.randint(0, 1))]
        rates = [[1] + [0] * n]
        if rng.random() < 0.3:
            rates += [random_rate(rng, n, fixed) for _ in range(rng.randint(1, 2))]
        locations.append((invariant, rates))
    jumps = []
    for _ in range(rng.choice([0, 2, 3, 4, 4])):
        relation = kept(n, fixed)
        for place in range(fixed, n):
            relation += random_update(rng, n, place)
        if rng.random() < 0.3:
            relation.append([rng.randint(0, 5), *random_vector(rng, 2 * n, 1)])
        jumps.append((rng.randrange(many), rng.randrange(many), relation))
    starts = []
    for _ in range(rng.choice([0, *[1] * 8, 2, 3])):
        bounds = [(low, low + rng.choice([0, 0, 1])) for low in [rng.randint(-2, 2) for _ in range(n)]]
        starts.append((rng.randrange(many), polyhedron(n, box(bounds))))
    return n, fixed, locations, jumps, starts


def random_goals(rng, system, nodes):
    """Return some small regions, often round a point of one of the nodes."""
    n = system[0]
    found = []
    for _ in range(rng.choice([0, 1, 1, 1, 2])):
        location, middle = rng.randrange(len(system[2])), [rng.randint(-6, 6) for _ in range(n)]
        if nodes and rng.random() < 0.7:
            location, _, region, _, _ = rng.choice(nodes[len(nodes) // 2:])
            point = rng.choice(generators(region)[0])
            middle = [item // point[0] for item in point[1:]]
        bounds = [(low - rng.randint(0, 1), low + rng.randint(0, 1)) for low in middle]
        found.append((location, polyhedron(n, box(bounds))))
    return found
