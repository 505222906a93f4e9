"""Runs: the states of a system, and the steps that lead from one to another."""

from floodmark.errors import BadRun
from floodmark.poly import has_point, spanned
from floodmark.system import crossing_conditions, directions_of
from floodmark.vectors import dot


def all_hold(conditions, point):
    """Return True if all the conditions hold at the point, otherwise False."""
    for condition in conditions:
        if dot(condition, point) < 0:
            return False
    return True


def is_state(system, state):
    """Return True if the location exists and its invariant holds, otherwise False."""
    location, point = state
    locations = system[2]
    if location < 0 or location >= len(locations):
        return False
    invariant, _ = locations[location]
    return all_hold(invariant, point)


def pair_of(old, new):
    """Return a vector that stands for the coordinates of both points, those of old first."""
    # Both get the same item 0. Conditions do not ask for a primitive vector.
    return ([old[0] * new[0]] + [item * new[0] for item in old[1:]]
            + [item * old[0] for item in new[1:]])


def is_wait(system, state, point):
    """Return True if a wait leads from a state to the point, otherwise False."""
    location, old = state
    if not is_state(system, state) or not is_state(system, (location, point)):
        return False
    return has_point(spanned(system[0], [old], directions_of(system, location)), point)


def is_jump(system, state, index, point):
    """Return True if the jump leads from a state to the point, otherwise False."""
    location, old = state
    jumps = system[3]
    if index < 0 or index >= len(jumps):
        return False
    source, _, _ = jumps[index]
    return source == location and all_hold(crossing_conditions(system, index), pair_of(old, point))


def leads_to(system, state, step):
    """Return the state to which a step leads from a state; raise BadRun if it does not."""
    location, _ = state
    if step[0] == "wait":
        _, point = step
        if is_wait(system, state, point):
            return location, list(point)
    elif step[0] == "jump":
        _, index, point = step
        if is_jump(system, state, index, point):
            _, target, _ = system[3][index]
            return target, list(point)
    raise BadRun("the step does not lead from the state")


def states_of(system, state, run):
    """Return the list of the states of a run, the first one included; raise BadRun if it is none."""
    if not is_state(system, state):
        raise BadRun("the first state of the run is not one")
    location, point = state
    found = [(location, list(point))]
    for step in run:
        found.append(leads_to(system, found[-1], step))
    return found


def is_initial(system, state):
    """Return True if a state is in a start and its invariant holds, otherwise False."""
    location, point = state
    if not is_state(system, state):
        return False
    for start, region in system[4]:
        if start == location and has_point(region, point):
            return True
    return False
