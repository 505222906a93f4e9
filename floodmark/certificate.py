"""Certificates that no initial run reaches a goal, and the premises of their claims."""

from floodmark.multipliers import are_multipliers
from floodmark.system import crossing_conditions, directions_of
from floodmark.vectors import dot, placed


def copied(conditions):
    """Return new lists with the same conditions."""
    return [list(condition) for condition in conditions]


def conditions_of(region):
    """Return the list of the conditions of a polyhedron."""
    _, equations, facets = region
    found = copied(facets)
    for equation in equations:
        found.append(list(equation))
        found.append([-item for item in equation])
    return found


def start_premises(system, start):
    """Return the premises of the claim of a start."""
    location, region = system[4][start]
    invariant, _ = system[2][location]
    return conditions_of(region) + copied(invariant)


def moved(condition, directions):
    """Return the condition for what a point becomes by multiples of the directions."""
    return condition + [dot(condition, direction) for direction in directions]


def time_conditions(n, many):
    """Return the conditions that the multiples of so many directions are at least 0."""
    size = n + 1 + many
    return [[1 if column == place else 0 for column in range(size)] for place in range(n + 1, size)]


def wait_premises(system, location, piece):
    """Return the premises of the claim of a wait of a piece."""
    invariant, _ = system[2][location]
    directions = directions_of(system, location)
    many = len(directions)
    before = [placed(condition, 0, many) for condition in piece + invariant]
    after = [moved(condition, directions) for condition in invariant]
    return before + time_conditions(system[0], many) + after


def jump_premises(system, jump, piece):
    """Return the premises of the claim of a jump and a piece of its source."""
    old = [placed(condition, 0, system[0]) for condition in piece]
    return old + copied(crossing_conditions(system, jump))


def goal_premises(system, goal, piece):
    """Return the premises of the claim of a goal and a piece of its location."""
    location, region = goal
    invariant, _ = system[2][location]
    return copied(piece + invariant) + conditions_of(region)


def wait_targets(system, location, piece):
    """Return the forms of the conditions of a piece in the claim of its wait."""
    directions = directions_of(system, location)
    return [moved(condition, directions) for condition in piece]


def entry_targets(piece, before):
    """Return the forms of the conditions of a piece, behind so many old values, for a start or jump to it."""
    return [placed(condition, before, 0) for condition in piece]


def never(many):
    """Return the condition in so many variables that stands for none being possible."""
    return [-1] + [0] * many


def all_shown(premises, targets, found):
    """Return True if there are multipliers for each of the targets and no more, otherwise False."""
    if len(found) != len(targets):
        return False
    for target, multipliers in zip(targets, found):
        if not are_multipliers(premises, target, multipliers):
            return False
    return True


def is_entry_claim(system, pieces, premises, before, claim):
    """Return True if the claim of a start or jump to a location with these pieces is as it must be."""
    index, found = claim
    if index is None:
        return all_shown(premises, [never(before + system[0])], found)
    return index in range(len(pieces)) and all_shown(premises, entry_targets(pieces[index], before), found)


def is_start_claim(system, pieces, start, claim):
    """Return True if the claim of a start is as it must be, otherwise False."""
    location, _ = system[4][start]
    return is_entry_claim(system, pieces[location], start_premises(system, start), 0, claim)


def is_wait_claim(system, pieces, location, place, claim):
    """Return True if the claim of the wait of a piece is as it must be, otherwise False."""
    index, found = claim
    piece = pieces[location][place]
    premises = wait_premises(system, location, piece)
    return index == place and all_shown(premises, wait_targets(system, location, piece), found)


def is_jump_claim(system, pieces, jump, piece, claim):
    """Return True if the claim of a jump and a piece of its source is as it must be, otherwise False."""
    _, target, _ = system[3][jump]
    return is_entry_claim(system, pieces[target], jump_premises(system, jump, piece), system[0], claim)


def is_goal_claim(system, goal, piece, claim):
    """Return True if the claim of a goal and a piece of its location is as it must be."""
    index, found = claim
    return index is None and all_shown(goal_premises(system, goal, piece), [never(system[0])], found)


def lengths(rows):
    """Return the lengths of some lists."""
    return [len(row) for row in rows]


def has_form(system, goals, certificate):
    """Return True if the lists and conditions of a certificate are as long as they must be."""
    pieces, starts, waits, jumps, ends = certificate
    if len(pieces) != len(system[2]) or len(starts) != len(system[4]):
        return False
    conditions = [condition for row in pieces for piece in row for condition in piece]
    if any([len(condition) != system[0] + 1 for condition in conditions]):
        return False
    many = lengths(pieces)
    return (lengths(waits) == many
            and lengths(jumps) == [many[source] for source, _, _ in system[3]]
            and lengths(ends) == [many[location] for location, _ in goals])


def are_kept(system, certificate):
    """Return True if the claims of starts, waits and jumps are as they must be, otherwise False."""
    pieces, starts, waits, jumps, _ = certificate
    for start, claim in enumerate(starts):
        if not is_start_claim(system, pieces, start, claim):
            return False
    for location, claims in enumerate(waits):
        for place, claim in enumerate(claims):
            if not is_wait_claim(system, pieces, location, place, claim):
                return False
    for jump, claims in enumerate(jumps):
        source, _, _ = system[3][jump]
        for piece, claim in zip(pieces[source], claims):
            if not is_jump_claim(system, pieces, jump, piece, claim):
                return False
    return True


def are_avoided(system, goals, certificate):
    """Return True if the claims of goals are as they must be, otherwise False."""
    pieces, _, _, _, ends = certificate
    for goal, claims in zip(goals, ends):
        location, _ = goal
        for piece, claim in zip(pieces[location], claims):
            if not is_goal_claim(system, goal, piece, claim):
                return False
    return True


def is_certificate(system, goals, certificate):
    """Return True if the certificate is accepted, otherwise False."""
    return (has_form(system, goals, certificate)
            and are_kept(system, certificate)
            and are_avoided(system, goals, certificate))
