"""The search: which regions initial runs reach, layer by layer, and shortest runs to goals.

A node is a tuple (location, entry, region, parent, jump). A way to a node is a pair: None and
the index of a start, or the index of a node and that of a jump from its location.
"""

from floodmark.errors import OutOfRange
from floodmark.poly import contains, generators, meet, spanned, spanning_vectors
from floodmark.successors import jump_backward, jump_forward, wait_backward, wait_forward
from floodmark.system import invariant_of

MOST_NODES = 60


def start_entry(system, start):
    """Return the polyhedron of a start met with the invariant of its location, or None."""
    location, region = system[4][start]
    invariant = invariant_of(system, location)
    return None if invariant is None else meet(region, invariant)


def node_with(system, location, entry, parent, jump):
    """Return the node with this entry, or None if its entry or its region is None."""
    region = None if entry is None else wait_forward(system, location, entry)
    return None if region is None else (location, entry, region, parent, jump)


def node_by(system, nodes, way):
    """Return the node to which a way leads, or None if its entry or its region is None."""
    parent, index = way
    if parent is None:
        location, _ = system[4][index]
        return node_with(system, location, start_entry(system, index), None, None)
    _, location, _ = system[3][index]
    entry = jump_forward(system, index, nodes[parent][2])
    return node_with(system, location, entry, parent, index)


def is_covered(nodes, node):
    """Return True if a node with the same location includes the region of a new one."""
    vectors = spanning_vectors(node[2])
    for location, _, region, _, _ in nodes:
        if location == node[0] and contains(region, vectors):
            return True
    return False


def ways_from(system, nodes, first):
    """Return the ways from all nodes with at least this index."""
    return [
        (parent, jump)
        for parent in range(first, len(nodes))
        for jump, (source, _, _) in enumerate(system[3])
        if source == nodes[parent][0]
    ]


def met_goal(goals, node):
    """Return the common points of a node and the first goal that it meets, or None."""
    for location, goal in goals:
        if location == node[0]:
            common = meet(goal, node[2])
            if common is not None:
                return common
    return None


def explored(system, goals, fuel):
    """Return the layers of a search, whether it is closed, and where its last node meets a goal.

    The search ends at the first node that meets a goal; the last item is None if none does.
    """
    if fuel < 0:
        raise OutOfRange("the fuel is negative")
    layers = []
    nodes = []
    ways = [(None, start) for start in range(len(system[4]))]
    for _ in range(fuel + 1):
        first = len(nodes)
        for way in ways:
            node = node_by(system, nodes, way)
            if node is not None and not is_covered(nodes, node):
                nodes.append(node)
                common = met_goal(goals, node)
                if common is not None or len(nodes) > MOST_NODES:
                    return layers + [nodes[first:]], False, common
        if len(nodes) == first:
            return layers, True, None
        layers.append(nodes[first:])
        ways = ways_from(system, nodes, first)
    return layers, False, None


def find_nodes(system, *, fuel):
    """Return the list of the lists of the nodes of each layer, and whether the search is closed."""
    layers, closed, _ = explored(system, [], fuel)
    return layers, closed


def first_point(region):
    """Return the first one of the points of a polyhedron."""
    points, _, _ = generators(region)
    return points[0]


def entry_point(system, node, point):
    """Return the first point of the entry of a node from which a wait leads to the point."""
    location, entry, _, _, _ = node
    backward = wait_backward(system, location, spanned(system[0], [point]))
    return first_point(meet(entry, backward))


def run_to(system, nodes, common):
    """Return the state and the run which lead to the first one of some points of the last node."""
    backward = []
    node = nodes[-1]
    point = first_point(common)
    while True:
        before = entry_point(system, node, point)
        if before != point:
            backward.append(("wait", point))
        location, _, _, parent, jump = node
        if parent is None:
            return (location, before), backward[::-1]
        backward.append(("jump", jump, before))
        node = nodes[parent]
        sources = jump_backward(system, jump, spanned(system[0], [before]))
        point = first_point(meet(node[2], sources))


def search(system, goals, *, fuel=10):
    """Return the result of a search for goals: reached, closed or unknown."""
    layers, closed, common = explored(system, goals, fuel)
    nodes = [node for layer in layers for node in layer]
    if common is not None:
        state, run = run_to(system, nodes, common)
        return "reached", state, run
    if closed:
        return "closed", nodes
    return ("unknown",)
