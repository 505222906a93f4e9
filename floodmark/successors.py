"""The states to which waits and jumps lead from a region, and those from which they lead to it."""

from floodmark.cone import unit_vectors
from floodmark.poly import extended, image_of, meet
from floodmark.system import crossing_conditions, directions_of, invariant_of
from floodmark.vectors import placed


def waited(system, location, region, directions):
    """Return what the directions lead to from a region, within the invariant, or None."""
    invariant = invariant_of(system, location)
    if invariant is None:
        return None
    common = meet(region, invariant)
    if common is None:
        return None
    return meet(extended(common, directions), invariant)


def wait_forward(system, location, region):
    """Return the polyhedron of the points to which waits lead from the region, or None."""
    return waited(system, location, region, directions_of(system, location))


def wait_backward(system, location, region):
    """Return the polyhedron of the points from which waits lead to the region, or None."""
    directions = directions_of(system, location)
    backward = [[-item for item in direction] for direction in directions]
    return waited(system, location, region, backward)


def jump_forward(system, jump, region):
    """Return the polyhedron of the points to which a jump leads from the region, or None."""
    n, equations, facets = region
    conditions = [placed(facet, 0, n) for facet in facets] + crossing_conditions(system, jump)
    rows = [placed(equation, 0, n) for equation in equations]
    return image_of(2 * n, conditions, rows, unit_vectors(2 * n + 1)[n + 1:])


def jump_backward(system, jump, region):
    """Return the polyhedron of the points from which a jump leads to the region, or None."""
    n, equations, facets = region
    conditions = [placed(facet, n, 0) for facet in facets] + crossing_conditions(system, jump)
    rows = [placed(equation, n, 0) for equation in equations]
    return image_of(2 * n, conditions, rows, unit_vectors(2 * n + 1)[1:n + 1])
