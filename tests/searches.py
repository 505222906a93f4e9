"""Systems whose searches have several layers, and slow versions of the search."""

from floodmark.poly import generators, includes, meet, polyhedron, spanned
from floodmark.search import find_nodes
from floodmark.successors import jump_backward, jump_forward, wait_backward, wait_forward
from floodmark.system import invariant_of
from tests.examples import same
from tests.shapes import box
from tests.slow import both_ways

NO_POINT = (0, [], [])


def interval(low, high):
    return polyhedron(1, box([(low, high)]))


def at(value):
    return interval(value, value)


def counter(*relations, start=(0,), invariant=(), rate=0):
    """Return a system with one variable and one location; each relation has one equation."""
    jumps = [(0, 0, both_ways([relation])) for relation in relations]
    return 1, 0, [(list(invariant), [[1, rate]])], jumps, [(0, at(value)) for value in start]


# Each node has one value. COUNTER adds 1; TREE leads from x to 2 x + 1 and to 2 x + 2, so the
# nodes have the values 0, 1, 2, ... in their order.
COUNTER = counter([-1, -1, 1])
TREE = counter([-1, -2, 1], [-2, -2, 1])

# A square in which both variables rise, and a jump that turns a quarter round the middle.
TURN = (
    2, 0,
    [(box([(0, 4), (0, 4)]), [[1, 1, 0], [2, 1, 1]]), ([], [[1, 0, 0]])],
    [
        (0, 0, both_ways([[-4, 0, 1, 1, 0], [0, -1, 0, 0, 1]])),
        (0, 1, [[-7, 1, 1, 0, 0], *same(2)]),
    ],
    [(0, polyhedron(2, box([(0, 1), (0, 0)])))],
)


def all_nodes(system, fuel=10):
    return [node for layer in find_nodes(system, fuel=fuel)[0] for node in layer]


def slow_layers(system, fuel):
    """Return the layers and whether the search is closed, written as point 20 says it."""
    layers = []
    for index in range(fuel + 1):
        kept = [node for layer in layers for node in layer]
        first = len(kept) - len(layers[-1]) if layers else 0
        found = []
        if index == 0:
            for location, start in system[4]:
                inside = invariant_of(system, location)
                found.append((location, inside and meet(start, inside), None, None))
        for parent in range(first, len(kept)):
            for jump, (source, target, _) in enumerate(system[3]):
                if source == kept[parent][0]:
                    found.append((target, jump_forward(system, jump, kept[parent][2]), parent, jump))
        layer = []
        for location, entry, parent, jump in found:
            region = entry and wait_forward(system, location, entry)
            earlier = [node[2] for node in kept + layer if node[0] == location]
            if entry and region and not any(includes(other, region) for other in earlier):
                layer.append((location, entry, region, parent, jump))
                if len(kept + layer) == 61:
                    return layers + [layer], False
        if not layer:
            return layers, True
        layers.append(layer)
    return layers, False


def slow_search(system, goals, fuel):
    """Return the result of a search as points 22 and 23 say it."""
    layers, closed = slow_layers(system, fuel)
    nodes = [node for layer in layers for node in layer]
    for node in nodes:
        for location, goal in goals:
            common = meet(goal, node[2]) if location == node[0] else None
            if common:
                return slow_run(system, nodes, node, generators(common)[0][0], [])
    return ("closed", nodes) if closed else ("unknown",)


def slow_run(system, nodes, node, q, rest):
    n, (location, entry, _, parent, jump) = system[0], node
    p = generators(meet(entry, wait_backward(system, location, spanned(n, [q]))))[0][0]
    rest = ([] if p == q else [("wait", q)]) + rest
    if parent is None:
        return "reached", (location, p), rest
    before = jump_backward(system, jump, spanned(n, [p]))
    q = generators(meet(nodes[parent][2], before))[0][0]
    return slow_run(system, nodes, nodes[parent], q, [("jump", jump, p), *rest])
