"""Joint systems: two systems that run at the same time."""

from floodmark.errors import OutOfRange
from floodmark.poly import polyhedron
from floodmark.runs import pair_of
from floodmark.system import (
    LARGEST, MOST_INVARIANT, MOST_JUMPS, MOST_LOCATIONS, MOST_RATES, MOST_RELATION, MOST_STARTS, MOST_VARIABLES,
    kept_conditions, parameter_conditions,
)
from floodmark.vectors import primitive


def limit(many, most):
    """Raise OutOfRange if there would be too many of something."""
    if many > most:
        raise OutOfRange("the joint system would be too large")


def check_counts(first, second):
    """Raise OutOfRange if a joint system would have too many variables, locations, jumps or starts."""
    n, _, locations, jumps, starts = first
    m, _, more_locations, more_jumps, more_starts = second
    limit(n + m, MOST_VARIABLES)
    limit(len(locations) * len(more_locations), MOST_LOCATIONS)
    limit(len(jumps) * len(more_locations) + len(locations) * len(more_jumps), MOST_JUMPS)
    limit(len(starts) * len(more_starts), MOST_STARTS)


def places_of(first, second):
    """Return the places in the joint system of the variables of the first and of the second one."""
    n, fixed, _, _, _ = first
    m, more, _, _, _ = second
    both = fixed + more
    mine = list(range(fixed)) + list(range(both, n + more))
    yours = list(range(fixed, both)) + list(range(n + more, n + m))
    return mine, yours


def spread(vector, places, size):
    """Return a vector in so many variables, with the items of a vector at these places."""
    found = vector[:1] + [0] * size
    for item, place in zip(vector[1:], places):
        found[place + 1] = item
    return found


def joint_rate(rate, other, places, size):
    """Return two rates as one point."""
    found = primitive(spread(pair_of(rate, other), places, size))
    if max(found) > LARGEST or min(found) < -LARGEST:
        raise OutOfRange("an integer of a joint rate is too great or too small")
    return found


def joint_locations(first, second):
    """Return the locations of the joint system."""
    size = first[0] + second[0]
    mine, yours = places_of(first, second)
    found = []
    for invariant, rates in first[2]:
        for other, more in second[2]:
            limit(len(invariant) + len(other), MOST_INVARIANT)
            limit(len(rates) * len(more), MOST_RATES)
            conditions = [spread(condition, mine, size) for condition in invariant]
            conditions = conditions + [spread(condition, yours, size) for condition in other]
            points = [joint_rate(rate, another, mine + yours, size) for rate in rates for another in more]
            found.append((conditions, points))
    return found


def joint_relation(relation, moving, staying, size, fixed):
    """Return the relation of a joint jump.

    The relation that is given has no conditions for parameters. moving are the places of the
    variables of the system that jumps, staying those of the others that are no parameters.
    """
    places = moving + [size + place for place in moving]
    rows = [spread(condition, places, 2 * size) for condition in relation]
    found = parameter_conditions(size, fixed) + rows + kept_conditions(size, staying)
    limit(len(found), MOST_RELATION)
    return found


def joint_jumps(first, second):
    """Return the jumps of the joint system."""
    n, fixed, locations, jumps, _ = first
    m, more, more_locations, more_jumps, _ = second
    mine, yours = places_of(first, second)
    many = len(more_locations)
    found = []
    for source, target, relation in jumps:
        for place in range(many):
            joint = joint_relation(relation[2 * fixed:], mine, yours[more:], n + m, fixed + more)
            found.append((source * many + place, target * many + place, joint))
    for place in range(len(locations)):
        for source, target, relation in more_jumps:
            joint = joint_relation(relation[2 * more:], yours, mine[fixed:], n + m, fixed + more)
            found.append((place * many + source, place * many + target, joint))
    return found


def joint_region(region, other, places, size):
    """Return the product of two polyhedra, with the variables in the order of the joint system."""
    mine, yours = places
    _, equations, facets = region
    _, more_equations, more_facets = other
    conditions = [spread(row, mine, size) for row in facets] + [spread(row, yours, size) for row in more_facets]
    rows = [spread(row, mine, size) for row in equations] + [spread(row, yours, size) for row in more_equations]
    return polyhedron(size, conditions, rows)


def joint_starts(first, second):
    """Return the starts of the joint system."""
    places = places_of(first, second)
    many = len(second[2])
    return [
        (location * many + place, joint_region(region, other, places, first[0] + second[0]))
        for location, region in first[4]
        for place, other in second[4]
    ]


def joint_system(first, second):
    """Return the joint system; raise OutOfRange if it would be too large."""
    check_counts(first, second)
    locations = joint_locations(first, second)
    jumps = joint_jumps(first, second)
    return first[0] + second[0], first[1] + second[1], locations, jumps, joint_starts(first, second)
