"""Values of the parameters with which goals are reached, and of conditions at a location."""

from floodmark.cone import unit_vectors
from floodmark.errors import OutOfRange
from floodmark.poly import contains, image, least_value, meet, spanning_vectors
from floodmark.search import MOST_NODES, find_nodes
from floodmark.system import location_at
from floodmark.vectors import is_less


def nodes_within(system, jumps):
    """Return the nodes of the layers up to a number of jumps; raise OutOfRange if there are too many."""
    layers, _ = find_nodes(system, fuel=jumps)
    nodes = [node for layer in layers for node in layer]
    if len(nodes) > MOST_NODES:
        raise OutOfRange("the search keeps more than 60 nodes")
    return nodes


def different(regions):
    """Return the polyhedra in ascending order, of equal ones only one."""
    found = []
    for region in sorted(regions):
        if not found or region != found[-1]:
            found.append(region)
    return found


def outermost(regions):
    """Return in ascending order the polyhedra that are not included in another one."""
    pairs = [(region, spanning_vectors(region)) for region in different(regions)]
    found = []
    for region, vectors in pairs:
        # The polyhedra are different, so what includes this one without being it is greater.
        wider = [other for other, _ in pairs if other != region and contains(other, vectors)]
        if not wider:
            found.append(region)
    return found


def critical_values(system, goals, *, jumps):
    """Return the polyhedra of the parameters with which runs with at most so many jumps reach a goal."""
    n, fixed, _, _, _ = system
    rows = unit_vectors(n + 1)[1:fixed + 1]
    found = []
    for location, _, region, _, _ in nodes_within(system, jumps):
        for place, goal in goals:
            common = meet(goal, region) if place == location else None
            if common is not None:
                found.append(image(common, rows))
    return outermost(found)


def least_of(regions, condition):
    """Return the least value of a condition on several polyhedra, or None if there is no lower bound."""
    values = [least_value(region, condition) for region in regions]
    if None in values:
        return None
    least = values[0]
    for value in values:
        if is_less(value, least):
            least = value
    return least


def value_range(system, location, condition, *, jumps):
    """Return the least and the greatest value of a condition at a location, or None if it is not reached."""
    location_at(system, location)
    nodes = nodes_within(system, jumps)
    regions = [region for place, _, region, _, _ in nodes if place == location]
    if not regions:
        return None
    negative = least_of(regions, [-item for item in condition])
    greatest = None if negative is None else (-negative[0], negative[1])
    return least_of(regions, condition), greatest
