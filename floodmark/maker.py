"""Certificates that are made from the nodes of a search."""

from floodmark.certificate import (
    conditions_of, entry_targets, goal_premises, jump_premises, never, start_premises, wait_premises, wait_targets,
)
from floodmark.multipliers import find_multipliers
from floodmark.poly import contains, spanning_vectors
from floodmark.search import start_entry
from floodmark.successors import jump_forward


def claim_with(index, premises, targets):
    """Return the claim with multipliers for the targets, or None if one of them has none."""
    found = [find_multipliers(premises, target) for target in targets]
    return None if None in found else (index, found)


def first_around(regions, region):
    """Return the index of the first one of the polyhedra that includes another one, or None."""
    vectors = spanning_vectors(region)
    for index, other in enumerate(regions):
        if contains(other, vectors):
            return index
    return None


def entry_claim(system, regions, entry, premises, before):
    """Return the claim of a start or jump to a location with these regions, or None."""
    if entry is None:
        return claim_with(None, premises, [never(before + system[0])])
    index = first_around(regions, entry)
    if index is None:
        return None
    return claim_with(index, premises, entry_targets(conditions_of(regions[index]), before))


def start_claim(system, regions, start):
    """Return the claim of a start, or None."""
    location, _ = system[4][start]
    premises = start_premises(system, start)
    return entry_claim(system, regions[location], start_entry(system, start), premises, 0)


def wait_claim(system, location, index, region):
    """Return the claim of the wait of a piece, or None."""
    piece = conditions_of(region)
    premises = wait_premises(system, location, piece)
    return claim_with(index, premises, wait_targets(system, location, piece))


def jump_claim(system, regions, jump, region):
    """Return the claim of a jump and a piece of its source, or None."""
    _, target, _ = system[3][jump]
    premises = jump_premises(system, jump, conditions_of(region))
    return entry_claim(system, regions[target], jump_forward(system, jump, region), premises, system[0])


def goal_claim(system, goal, region):
    """Return the claim of a goal and a piece of its location, or None."""
    return claim_with(None, goal_premises(system, goal, conditions_of(region)), [never(system[0])])


def regions_at(nodes, place):
    """Return the regions of the nodes with a location, in order."""
    return [region for location, _, region, _, _ in nodes if location == place]


def make_certificate(system, goals, nodes):
    """Return a certificate for the nodes of a closed search, or None if a claim cannot be made."""
    _, _, locations, all_jumps, all_starts = system
    regions = [regions_at(nodes, place) for place in range(len(locations))]
    pieces = [[conditions_of(region) for region in row] for row in regions]
    starts = [start_claim(system, regions, start) for start in range(len(all_starts))]
    waits = [
        [wait_claim(system, place, index, region) for index, region in enumerate(row)]
        for place, row in enumerate(regions)
    ]
    jumps = [
        [jump_claim(system, regions, jump, region) for region in regions[source]]
        for jump, (source, _, _) in enumerate(all_jumps)
    ]
    ends = [[goal_claim(system, goal, region) for region in regions[goal[0]]] for goal in goals]
    if None in starts or any([None in row for row in waits + jumps + ends]):
        return None
    return pieces, starts, waits, jumps, ends
