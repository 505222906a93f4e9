"""Systems: which ones are valid, and what is at their locations and jumps."""

from floodmark.errors import BadSystem, OutOfRange
from floodmark.poly import polyhedron
from floodmark.vectors import placed, primitive

MOST_VARIABLES = 3
MOST_LOCATIONS = 8
MOST_JUMPS = 24
MOST_STARTS = 8
MOST_INVARIANT = 12
MOST_RELATION = 24
MOST_RATES = 8
LARGEST = 1000000


def require(holds, text):
    """Raise BadSystem with this text if something that must hold does not."""
    if not holds:
        raise BadSystem(text)


def check_vectors(vectors, size, most):
    """Raise BadSystem if there are too many vectors, or one has a wrong length or item."""
    require(len(vectors) <= most, "there are too many conditions or rates")
    for vector in vectors:
        require(len(vector) == size, "a condition or rate has a wrong length")
        for item in vector:
            require(-LARGEST <= item and item <= LARGEST, "an integer is too great or too small")


def check_location(location, n, fixed):
    """Raise BadSystem if a location is not one in n variables with so many parameters."""
    invariant, rates = location
    check_vectors(invariant, n + 1, MOST_INVARIANT)
    check_vectors(rates, n + 1, MOST_RATES)
    require(len(rates) >= 1, "a location has no rates")
    for rate in rates:
        require(rate[0] >= 1 and rate == primitive(rate), "a rate is not a point")
        require(rate[1:fixed + 1] == [0] * fixed, "a rate changes a parameter")


def kept_conditions(n, places):
    """Return the conditions of a relation which say that the variables at these places stay."""
    found = []
    for place in places:
        row = [0] * n
        row[place] = 1
        # With the old value in front of it, the row stands for the new value minus the old one.
        rise = [0] + [-item for item in row] + row
        found.append(rise)
        found.append([-item for item in rise])
    return found


def parameter_conditions(n, fixed):
    """Return the conditions of a relation which say that no parameter changes."""
    return kept_conditions(n, list(range(fixed)))


def check_jump(jump, n, fixed, many):
    """Raise BadSystem if a jump is not one between so many locations."""
    source, target, relation = jump
    require(source in range(many) and target in range(many), "a jump has no such location")
    check_vectors(relation, 2 * n + 1, MOST_RELATION)
    require(relation[:2 * fixed] == parameter_conditions(n, fixed), "a jump changes a parameter")


def check_start(start, n, many):
    """Raise BadSystem if a start is not a region at one of so many locations."""
    location, region = start
    require(location in range(many), "a start has no such location")
    require(region is not None, "a start has no point")
    require(region[0] == n, "a start has a wrong number of variables")


def check_system(system):
    """Raise BadSystem if the system is not valid."""
    n, fixed, locations, jumps, starts = system
    require(0 <= n and n <= MOST_VARIABLES, "the number of variables is not from 0 to 3")
    require(0 <= fixed and fixed <= n, "the number of parameters is out of range")
    many = len(locations)
    require(1 <= many and many <= MOST_LOCATIONS, "the number of locations is not from 1 to 8")
    require(len(jumps) <= MOST_JUMPS, "there are too many jumps")
    require(len(starts) <= MOST_STARTS, "there are too many starts")
    for location in locations:
        check_location(location, n, fixed)
    for jump in jumps:
        check_jump(jump, n, fixed, many)
    for start in starts:
        check_start(start, n, many)


def location_at(system, location):
    """Return the invariant and the rates of a location; raise OutOfRange if there is none."""
    locations = system[2]
    if location < 0 or location >= len(locations):
        raise OutOfRange("there is no such location")
    return locations[location]


def jump_at(system, jump):
    """Return source, target and relation of a jump; raise OutOfRange if there is none."""
    jumps = system[3]
    if jump < 0 or jump >= len(jumps):
        raise OutOfRange("there is no such jump")
    return jumps[jump]


def invariant_of(system, location):
    """Return the polyhedron of the invariant of a location, or None."""
    invariant, _ = location_at(system, location)
    return polyhedron(system[0], invariant)


def directions_of(system, location):
    """Return the rates of a location taken as directions, without those that are 0."""
    _, rates = location_at(system, location)
    return [primitive([0] + rate[1:]) for rate in rates if any(rate[1:])]


def relation_of(system, jump):
    """Return the polyhedron of the relation of a jump, old values before new ones, or None."""
    _, _, relation = jump_at(system, jump)
    return polyhedron(2 * system[0], relation)


def crossing_conditions(system, jump):
    """Return all conditions under which a jump leads from old values to new ones."""
    n = system[0]
    source, target, relation = jump_at(system, jump)
    before, _ = location_at(system, source)
    after, _ = location_at(system, target)
    old = [placed(condition, 0, n) for condition in before]
    new = [placed(condition, n, 0) for condition in after]
    return old + relation + new
