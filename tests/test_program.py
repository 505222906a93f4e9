"""Points 1 and 2, and what holds over the whole program."""

import ast
import unittest
from fractions import Fraction
from pathlib import Path
from random import Random

import floodmark
from floodmark.books import read_book, write_book
from floodmark.certificate import is_certificate
from floodmark.desk import Desk
from floodmark.errors import OutOfRange
from floodmark.joint import joint_system
from floodmark.maker import make_certificate
from floodmark.parameters import critical_values, value_range
from floodmark.poly import generators, has_point, meet, polyhedron, spanned
from floodmark.runs import is_initial, is_state, states_of
from floodmark.search import find_nodes, search
from floodmark.successors import jump_forward, wait_forward
from floodmark.system import check_system, directions_of, invariant_of
from tests.checking import ProgramTest
from tests.examples import CLOCK, NO_VARIABLES, TANK, kept, random_goals, random_started_system, same
from tests.proofs import LAMP, LAMP_GOALS, RAMP, RAMP_GOALS
from tests.searches import TURN, all_nodes, at, interval
from tests.shapes import box
from tests.slow import as_primitive, both_ways, can_hold, product_of

# A parameter p, a level x and a clock c. The level falls by 1 to 2 per unit of the clock; at 2 units,
# the clock is set to 0 and x rises by 4, if it is at most 4 then.
TIDE = (
    3, 1,
    [([[2, 0, 0, -1]], [[1, 0, -1, 1], [1, 0, -2, 1]])],
    [(0, 0, [*kept(3, 1), [-2, 0, 0, 1, 0, 0, 0], [4, 0, -1, 0, 0, 0, 0],
             *both_ways([[-4, 0, -1, 0, 0, 1, 0], [0, 0, 0, 0, 0, 0, 1]])])],
    [(0, polyhedron(3, box([(0, 9), (4, 5), (0, 0)])))],
)


def coordinates(point):
    return [Fraction(item, point[0]) for item in point[1:]]


def at_least_0(condition, values):
    return condition[0] + sum(item * value for item, value in zip(condition[1:], values)) >= 0


def follow(system, state, step, later):
    """Return True if a step leads from a state to a later one, written over fractions."""
    _, fixed, locations, jumps, _ = system
    old, new = coordinates(state[1]), coordinates(later[1])
    inside = (all(at_least_0(row, old) for row in locations[state[0]][0])
              and all(at_least_0(row, new) for row in locations[later[0]][0]))
    if old[:fixed] != new[:fixed] or step[-1] != later[1]:
        return False
    if step[0] == "jump":
        source, target, relation = jumps[step[1]]
        return (inside and (source, target) == (state[0], later[0])
                and all(at_least_0(row, old + new) for row in relation))
    # The times of the directions are the unknowns.
    directions = directions_of(system, state[0])
    rows = [as_primitive([a - b, *[direction[place + 1] for direction in directions]])
            for place, (a, b) in enumerate(zip(old, new))]
    times = [[0] + [int(place == other) for other in range(len(directions))] for place in range(len(directions))]
    return inside and state[0] == later[0] and can_hold(both_ways(rows) + times, len(directions) + 1)


def mean(rng, points):
    """Return a point between some others."""
    weights = [rng.choice([0, 1, 1, 2]) for _ in points]
    if not any(weights):
        weights[0] = 1
    rows = [coordinates(point) for point in points]
    total = sum(weights)
    return as_primitive([1] + [sum(weight * row[place] for weight, row in zip(weights, rows)) / total
                               for place in range(len(rows[0]))])


def random_run(rng, system, most):
    """Return the states of a random initial run, or an empty list if there is none."""
    n = system[0]
    found = []
    for location, start in rng.sample(system[4], len(system[4])):
        inside = invariant_of(system, location)
        entry = meet(start, inside) if inside and not found else None
        while entry and len(found) < 2 * most:
            point = mean(rng, generators(entry)[0])
            found.append((location, point))
            later = mean(rng, generators(wait_forward(system, location, spanned(n, [point])))[0])
            found.append((location, later))
            ways = [(jump, target) for jump, (source, target, _) in enumerate(system[3]) if source == location]
            jump, location = rng.choice(ways) if ways else (None, location)
            entry = jump_forward(system, jump, spanned(n, [later])) if ways else None
    return found


def in_goals(goals, state):
    return any(place == state[0] and has_point(goal, state[1]) for place, goal in goals)


class ProgramWideTest(ProgramTest):

    def examples(self, seed, many):
        """Yield systems with goals: those that have a name, then random ones."""
        yield TANK, [(1, at(1))]
        yield TANK, [(2, interval(None, None))]
        yield CLOCK, [(2, (3, [], []))]
        yield NO_VARIABLES, [(2, (0, [], []))]
        yield LAMP, LAMP_GOALS
        yield RAMP, RAMP_GOALS
        yield TURN, [(1, polyhedron(2, [[-8, 1, 1]]))]
        rng = Random(seed)
        for _ in range(many):
            system = random_started_system(rng)
            near = rng.choice([[], all_nodes(system, 2)])
            yield system, random_goals(rng, system, near)

    def test_the_states_of_a_run_that_was_found_follow_each_other(self):
        seen = 0
        for system, goals in self.examples(21, 150):
            result = search(system, goals, fuel=4)
            if result[0] == "reached":
                _, state, run = result
                states = states_of(system, state, run)
                self.assertEqual(len(states), len(run) + 1)
                self.assertTrue(is_initial(system, state))
                for before, step, after in zip(states, run, states[1:]):
                    self.assertTrue(follow(system, before, step, after))
                self.assertTrue(in_goals(goals, states[-1]))
                seen += len(run) > 1
        self.assertGreater(seen, 10)

    def test_no_run_leads_to_a_goal_where_the_search_is_closed(self):
        rng = Random(22)
        steps = 0
        for system, goals in self.examples(23, 120):
            result = search(system, goals, fuel=4)
            if result[0] == "closed":
                for _ in range(4):
                    states = random_run(rng, system, 8)
                    steps += len(states)
                    for location, point in states:
                        self.assertTrue(is_state(system, (location, point)))
                        self.assertFalse(in_goals(goals, (location, point)))
                        self.assertTrue(any(has_point(node[2], point) for node in result[1] if node[0] == location))
        self.assertGreater(steps, 500)

    def test_no_run_leads_to_a_goal_where_a_certificate_is_accepted(self):
        rng = Random(24)
        steps = 0
        for system, goals in self.examples(25, 100):
            nodes = all_nodes(system, 4)
            certificate = make_certificate(system, goals, nodes)
            if certificate is not None and is_certificate(system, goals, certificate):
                self.assertEqual(search(system, goals, fuel=5)[0], "closed")
                for _ in range(3):
                    states = random_run(rng, system, 8)
                    steps += len(states)
                    for location, point in states:
                        self.assertFalse(in_goals(goals, (location, point)))
                        self.assertTrue(any(all(product_of(row, point) >= 0 for row in piece)
                                            for piece in certificate[0][location]))
        self.assertGreater(steps, 300)

    def test_a_certificate_that_is_written_and_read_again_is_the_same(self):
        seen = 0
        for system, goals in self.examples(26, 100):
            result = search(system, goals, fuel=3)
            if result[0] == "closed":
                certificate = make_certificate(system, goals, result[1])
                book = self.call(write_book, certificate)
                again = self.call(read_book, book, n=system[0])
                self.assertEqual(again, certificate)
                self.assertTrue(is_certificate(system, goals, again))
                seen += 1
        self.assertGreater(seen, 30)

    def test_a_run_within_so_many_jumps_has_critical_values(self):
        rng = Random(27)
        seen = 0
        for system, goals in self.examples(28, 80):
            states = random_run(rng, system, 2)
            if states and len(all_nodes(system, 1)) <= 60:
                location, point = rng.choice(states)
                here = [(location, spanned(system[0], [point]))]
                values = critical_values(system, goals + here, jumps=1)
                parameters = as_primitive(point[:system[1] + 1])
                self.assertTrue(any(has_point(value, parameters) for value in values))
                least, greatest = value_range(system, location, [0] * system[0] + [1], jumps=1)
                value = Fraction(product_of([0] * system[0] + [1], point), point[0])
                self.assertTrue(least is None or Fraction(*least) <= value)
                self.assertTrue(greatest is None or value <= Fraction(*greatest))
                seen += 1
        self.assertGreater(seen, 40)

    def test_from_a_system_to_a_book(self):
        # After each 2 units x is at least 0, so p + x is.
        low = [(0, polyhedron(3, [[-1, -1, -1, 0]]))]
        self.assertIsNone(check_system(TIDE))
        result = self.call(search, TIDE, low)
        self.assertEqual((result[0], len(result[1])), ("closed", 3))
        certificate = self.call(make_certificate, TIDE, low, result[1])
        self.assertTrue(is_certificate(TIDE, low, read_book(write_book(certificate), n=3)))
        # x is at most 5, 7 and 8 with 0, 1 and 2 jumps.
        high = [(0, polyhedron(3, [[-5, -1, 1, 0]]))]
        for jumps, greatest in enumerate([5, 7, 8, 8]):
            self.assertEqual(value_range(TIDE, 0, [0, 0, 1, 0], jumps=jumps), ((0, 1), (greatest, 1)))
            self.assertEqual(critical_values(TIDE, high, jumps=jumps), [interval(0, greatest - 5)])
        desk = Desk(TIDE)
        self.assertEqual(desk.ask("goal 0 -7 -1 1 0"), "1")
        self.assertEqual(desk.ask("search 4"), "reached 1 2")
        self.assertEqual(desk.ask("path 4"), "0 0 5 0; 0 0 3 2; 0 0 7 0")
        self.assertEqual(desk.ask("values 0"), "0")
        self.assertEqual(desk.ask("range 0 2 0 0 1 0"), "0 8")

    def test_a_joint_system_is_searched(self):
        # The clock says when the level is looked at: after 3 units, it is at most 6 + 1.
        clock = (1, 0, [([[3, -1]], [[1, 1]]), ([], [[1, 0]])], [(0, 1, [[-3, 1, 0], *same(1)])], [(0, at(0))])
        filling = (*TANK[:2], TANK[2][:1], [], TANK[4])
        system = self.call(joint_system, filling, clock)
        self.assertIsNone(check_system(system))
        self.assertEqual(value_range(system, 0, [0, 1, 0], jumps=2), ((0, 1), (7, 1)))
        self.assertEqual(value_range(system, 1, [0, 1, 0], jumps=1), ((3, 1), (10, 1)))
        goals = [(0, polyhedron(2, [[-15, 2, 0]]))]
        _, nodes = search(system, goals)
        self.assertTrue(is_certificate(system, goals, make_certificate(system, goals, nodes)))

    def test_later_changes_have_no_effect(self):
        layers, _ = find_nodes(TANK, fuel=5)
        nodes = [node for layer in layers for node in layer]
        certificate = make_certificate(TANK, [], nodes)
        book = write_book(certificate)
        for layer in layers:
            for node in layer:
                node[1][2].clear()
                node[2][2].clear()
            layer.clear()
        self.assertTrue(is_certificate(TANK, [], certificate))
        book[:] = [0] * len(book)
        self.assertTrue(is_certificate(TANK, [], certificate))
        self.assertEqual(find_nodes(TANK, fuel=5)[1], True)

    def test_no_clock_no_random_numbers_no_files(self):
        folder = Path(floodmark.__file__).parent
        others = [path.name for path in folder.iterdir() if path.suffix != ".py"]
        self.assertIn(others, ([], ["__pycache__"]))
        for path in folder.glob("*.py"):
            for node in ast.walk(ast.parse(path.read_text())):
                self.assertNotIsInstance(node, ast.Import)
                if isinstance(node, ast.ImportFrom):
                    self.assertIn(node.module.split(".")[0], ("floodmark", "math"))
                if isinstance(node, ast.Name):
                    self.assertNotIn(node.id, ("open", "input", "print", "eval", "exec"))

    def test_errors_leave_everything_as_it_was(self):
        for function, arguments, options in [
            (find_nodes, (TANK,), {"fuel": -1}), (critical_values, (TURN, []), {"jumps": -3}),
            (value_range, (TANK, 5, [0, 1]), {"jumps": 0}), (joint_system, (CLOCK, TANK), {}),
        ]:
            before = repr(arguments)
            with self.assertRaises(OutOfRange):
                function(*arguments, **options)
            self.assertEqual(repr(arguments), before)


if __name__ == "__main__":
    unittest.main()
