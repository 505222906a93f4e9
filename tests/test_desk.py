"""Points 34 and 35: commands about a system, and their answers."""

import copy
import unittest
from random import Random

from floodmark.books import read_book, write_book
from floodmark.certificate import is_certificate
from floodmark.desk import Desk
from floodmark.errors import BadCommand, BadSystem, OutOfRange
from floodmark.maker import make_certificate
from floodmark.parameters import critical_values, value_range
from floodmark.poly import polyhedron
from floodmark.runs import states_of
from floodmark.search import search
from tests.commands import CommandTest
from tests.examples import CLOCK, NO_VARIABLES, STILL, TANK, VALID, random_started_system
from tests.proofs import LAMP, RAMP
from tests.searches import COUNTER, TREE, TURN, at, counter
from tests.shapes import box, random_vector
from tests.slow import both_ways

# The first variable falls from 9999999 by 1/3 and 1/7 per unit of time; a jump sets the second one to 1/3.
DEEP = (
    2, 0, [([], [[3, -1, 0], [7, -1, 0]]), ([], [[1, 0, 0]])],
    [(0, 1, both_ways([[0, -1, 0, 1, 0], [-1, 0, 0, 0, 3]]))],
    [(0, polyhedron(2, box([(9999999, 9999999), (-4, -4)])))],
)


def fraction_text(value):
    top, low = value
    return str(top) if low == 1 else str(top) + "/" + str(low)


class DeskTest(CommandTest):

    def test_goals(self):
        self.check(TANK, """
            goal 0 -3 1 -> 1
            goal 1 0 0 -> 2
            goal 2 5 -1 -> 3
            goal 0 -3 1 -> 4
        """)
        self.check(NO_VARIABLES, """
            goal 2 0 -> 1
            goal 1 7 -> 2
        """)
        self.check(CLOCK, """
            goal 2 1 2 3 4 -> 1
            goal 0 -9999999 0 9999999 0 -> 2
        """)

    def test_goals_without_a_point(self):
        self.check(TANK, """
            goal 0 -1 0 -> empty
            goal 0 0 0 -> 1
            goal 1 -9999999 0 -> empty
            goal 0 1 0 -> 2
        """)
        self.check(NO_VARIABLES, """
            goal 0 -1 -> empty
            search 0 -> unknown
            goal 0 0 -> 1
            search 0 -> reached 0 0
        """)

    def test_clear(self):
        self.check(TANK, """
            clear -> ok
            goal 0 -3 1 -> 1
            search 0 -> reached 0 1
            clear -> ok
            search 0 -> unknown
            clear -> ok
            goal 1 0 1 -> 1
            search 1 -> reached 1 3
        """)

    def test_search(self):
        self.check(TANK, """
            search 0 -> unknown
            search 2 -> unknown
            search 3 -> closed 3
            search 20 -> closed 3
            goal 1 2 -1 -> 1
            search 0 -> unknown
            search 1 -> reached 1 3
            goal 2 0 0 -> 2
            search 10 -> reached 1 3
            goal 0 0 0 -> 3
            search 10 -> reached 0 0
        """)
        self.check(STILL, """
            search 0 -> closed 0
            goal 0 1 -> 1
            search 5 -> closed 0
        """)
        self.check(COUNTER, """
            search 20 -> unknown
            goal 0 -20 1 -> 1
            search 20 -> reached 20 20
            search 19 -> unknown
        """)
        self.check(TREE, """
            goal 0 -60 1 -> 1
            search 20 -> reached 5 5
            search 4 -> unknown
        """)
        self.check(TREE, """
            goal 0 -61 1 -> 1
            search 20 -> unknown
        """)

    def test_path(self):
        self.check(TANK, """
            path 5 -> none
            path 0 -> none
            goal 1 2 -1 -> 1
            path 0 -> none
            path 1 -> 0 0; 0 8; 1 8; 1 2
            goal 0 -7 2 -> 2
            path 1 -> 0 0; 0 10
            clear -> ok
            goal 0 0 0 -> 1
            path 0 -> 0 0
        """)
        self.check(TANK, """
            goal 2 0 0 -> 1
            path 9 -> 0 0; 0 8; 1 8; 1 2; 2 0
        """)
        self.check(NO_VARIABLES, """
            goal 1 1 -> 1
            path 1 -> 0; 1
            path 0 -> none
            goal 0 1 -> 2
            path 1 -> 0
        """)
        self.check(STILL, """
            goal 0 1 -> 1
            path 3 -> none
        """)

    def test_coordinates_that_are_fractions(self):
        system = (*TURN[:4], [(0, polyhedron(2, [], [[-7, 2, 0], [1, 0, -3]]))])
        self.check(system, """
            goal 0 7 -2 0 -> 1
            path 0 -> 0 7/2 1/3
            clear -> ok
            goal 0 -11 3 0 -> 1
            path 0 -> 0 7/2 1/3; 0 11/3 1/3
            clear -> ok
            goal 0 -5 0 6 -> 1
            path 0 -> 0 7/2 1/3; 0 4 5/6
        """)
        self.check(DEEP, """
            goal 1 0 0 0 -> 1
            path 1 -> 0 9999999 -4; 1 9999999 1/3
            goal 0 9999999 -3 0 -> 2
            path 0 -> 0 9999999 -4; 0 3333333 -4
            clear -> ok
            goal 0 -9999999 -2 0 -> 1
            path 3 -> 0 9999999 -4; 0 -9999999/2 -4
        """)

    def test_books(self):
        self.check(TANK, """
            book 0 -> none
            book 2 -> none
        """)
        self.check(TANK, """
            goal 0 0 0 -> 1
            book 9 -> none
            clear -> ok
            goal 2 0 1 -> 1
            book 9 -> none
        """)
        self.check(COUNTER, """
            book 20 -> none
        """)
        # Five lists: one location without pieces, no starts, one list of waits, no jumps, no goals.
        self.check(STILL, """
            book 0 -> 7 accepted
            goal 0 1 -> 1
            book 20 -> 8 accepted
        """)
        self.book(TANK, 10, ["goal 2 -20 1", "goal 0 -11 1"])
        self.book(CLOCK, 10, ["goal 2 0 0 0 0", "goal 0 -6 1 0 0"])
        self.book(NO_VARIABLES, 10, ["goal 2 3"])
        self.book(LAMP, 3, ["goal 1 7 -1", "goal 0 -11 1"])
        self.book(RAMP, 9, ["goal 2 0 0 0", "goal 0 -1 -1 0", "goal 1 -1 -1 -1"])
        self.book(counter([-1, -1, 1], invariant=[[9, -1]]), 20, [])

    def book(self, system, fuel, commands):
        """Check the answer of book: the length is one that a correct certificate can have."""
        desk = Desk(system)
        for command in commands:
            self.assertNotEqual(desk.ask(command), "empty")
        length, word = desk.ask(f"book {fuel}").split(" ")
        self.assertEqual(word, "accepted")
        goals = [goal_of(system, command) for command in commands]
        result = search(system, goals, fuel=fuel)
        book = write_book(make_certificate(system, goals, result[1]))
        self.assertEqual(length, str(len(book)))
        self.assertTrue(is_certificate(system, goals, read_book(book, n=system[0])))

    def test_values(self):
        self.check(CLOCK, """
            values 0 -> 0
            goal 1 -6 0 0 1 -> 1
            values 0 -> 1
            values 1 -> 2
            values 20 -> 2
            goal 1 -4 0 0 1 -> 2
            values 0 -> 1
            values 1 -> 1
        """)
        self.check(TANK, """
            values 3 -> 0
            goal 2 0 0 -> 1
            values 1 -> 0
            values 2 -> 1
            goal 0 0 0 -> 2
            values 2 -> 1
        """)
        self.check(STILL, """
            goal 0 1 -> 1
            values 20 -> 0
        """)

    def test_ranges(self):
        self.check(TANK, """
            range 0 0 0 1 -> 0 10
            range 1 0 0 1 -> none
            range 1 1 0 1 -> 2 10
            range 1 20 -1 2 -> 3 19
            range 2 2 0 1 -> 0 0
            range 2 1 0 1 -> none
            range 0 0 7 0 -> 7 7
            range 0 0 -3 -1 -> -13 -3
        """)
        self.check(CLOCK, """
            range 1 0 0 0 1 0 -> 0 open
            range 1 0 0 0 -1 0 -> open 0
            range 1 0 0 0 0 1 -> open 7
            range 1 0 3 0 0 -1 -> -4 open
            range 1 0 0 0 1 1 -> open open
            range 2 20 0 0 1 1 -> none
        """)
        self.check(NO_VARIABLES, """
            range 0 0 -6 -> -6 -6
            range 2 9 1 -> none
        """)
        system = (1, 0, [([], [[1, 0]])], [], [(0, polyhedron(1, [[-2, 3], [7, -4]]))])
        self.check(system, """
            range 0 0 0 1 -> 2/3 7/4
            range 0 0 0 -1 -> -7/4 -2/3
            range 0 20 0 12 -> 8 21
            range 0 0 1 2 -> 7/3 9/2
            range 0 0 9999999 -9999999 -> -29999997/4 3333333
        """)

    def test_out_of_range(self):
        desk = Desk(TREE)
        for command in ("values 5", "values 20", "range 0 5 0 1", "range 0 20 0 1"):
            with self.assertRaises(OutOfRange):
                desk.ask(command)
        self.assertEqual(desk.ask("values 4"), "0")
        self.assertEqual(desk.ask("range 0 4 0 1"), "0 30")
        self.assertEqual(desk.ask("search 20"), "unknown")

    def test_a_command_that_raises_changes_nothing(self):
        desk = Desk(TREE)
        self.assertEqual(desk.ask("goal 0 -60 1"), "1")
        for command in ("values 20", "range 0 20 0 1"):
            with self.assertRaises(OutOfRange):
                desk.ask(command)
        for command in ("goal 0 0", "goal 0 0 1 1", "goal 1 0 1", "goal 0 0 01", "clear 1", "clear ", "", "goal",
                        "goal 0 0 x"):
            with self.assertRaises(BadCommand):
                desk.ask(command)
        self.assertEqual(desk.ask("search 20"), "reached 5 5")
        self.assertEqual(desk.ask("goal 0 0 1"), "2")

    def test_a_system_that_is_changed_after_the_desk_was_made(self):
        system = copy.deepcopy(TANK)
        desk = Desk(system)
        for part in system[2:]:
            part.clear()
        self.assertEqual(desk.ask("search 3"), "closed 3")
        system = copy.deepcopy(TANK)
        desk = Desk(system)
        system[2][0][0][0][0] = 3
        system[2][0][0].append([-9, 1])
        system[2][0][1][:] = [[1, -1]]
        system[3][0][2].append([-1, 0, 0])
        system[4][0][1][2][0][0] = -1
        self.assertEqual(desk.ask("search 3"), "closed 3")
        self.assertEqual(desk.ask("range 0 0 0 1"), "0 10")
        self.assertEqual(desk.ask("goal 1 2 -1"), "1")
        self.assertEqual(desk.ask("path 3"), "0 0; 0 8; 1 8; 1 2")

    def test_a_desk_changes_no_system(self):
        for system in (TANK, CLOCK, STILL, NO_VARIABLES):
            before = copy.deepcopy(system)
            desk = Desk(system)
            zeros = " 0" * (system[0] + 1)
            for command in ("goal 0" + zeros, "search 3", "path 3", "values 3", "range 0 3" + zeros, "clear",
                            "search 3", "book 3"):
                desk.ask(command)
            self.assertEqual(system, before)

    def test_desks_do_not_share_their_goals(self):
        first, second = Desk(TANK), Desk(TANK)
        self.assertEqual(first.ask("goal 0 0 0"), "1")
        self.assertEqual(second.ask("search 0"), "unknown")
        self.assertEqual(second.ask("goal 1 0 0"), "1")
        self.assertEqual(first.ask("search 0"), "reached 0 0")

    def test_systems_that_are_not_valid(self):
        for system in [
            (4, 0, [([], [[1, 0, 0, 0, 0]])], [], []), (1, 2, [([], [[1, 0]])], [], []), (1, 0, [], [], []),
            (1, 0, [([], [])], [], []), (1, 0, [([], [[2, 2]])], [], []), (1, 1, [([], [[1, 1]])], [], []),
            (1, 1, [([], [[1, 0]])], [(0, 0, [])], []), (1, 0, [([], [[1, 0]])], [(0, 1, [])], []),
            (1, 0, [([], [[1, 0]])], [], [(0, None)]), (1, 0, [([], [[1, 0]])], [], [(1, at(3))]),
            (1, 0, [([[1000001, 0]], [[1, 0]])], [], []), (0, 0, [([], [[1]])], [], [(0, at(3))]),
        ]:
            with self.subTest(system=system):
                with self.assertRaises(BadSystem):
                    Desk(system)
        for system in VALID.values():
            Desk(system)

    def test_as_the_functions_say(self):
        rng = Random(341)
        for _ in range(60):
            system = random_started_system(rng)
            n, fuel = system[0], rng.randint(0, 4)
            desk, goals = Desk(system), []
            for _ in range(rng.randint(0, 2)):
                where, row = rng.randrange(len(system[2])), [rng.randint(-6, 3), *random_vector(rng, n, 3)]
                region = polyhedron(n, [row])
                goals += [(where, region)] if region else []
                words = " ".join(str(item) for item in [where, *row])
                self.assertEqual(desk.ask("goal " + words), str(len(goals)) if region else "empty")
            self.as_searched(desk, system, goals, fuel)
            self.as_computed(desk, system, goals, rng.randint(0, 2), [rng.randint(-6, 3), *random_vector(rng, n, 3)])

    def as_searched(self, desk, system, goals, fuel):
        result = search(system, goals, fuel=fuel)
        path = book = "none"
        if result[0] == "reached":
            _, state, run = result
            expected = f"reached {sum(step[0] == 'jump' for step in run)} {len(run)}"
            path = "; ".join(self.text(each) for each in states_of(system, state, run))
        elif result[0] == "closed":
            expected = f"closed {len(result[1])}"
            book = f"{len(write_book(make_certificate(system, goals, result[1])))} accepted"
        else:
            expected = "unknown"
        answers = [desk.ask(f"{word} {fuel}") for word in ("search", "path", "book")]
        self.assertEqual(answers, [expected, path, book])

    def text(self, state):
        location, point = state
        coordinates = []
        for item in point[1:]:
            divisor = next(low for low in range(point[0], 0, -1) if item % low == 0 and point[0] % low == 0)
            coordinates.append(fraction_text((item // divisor, point[0] // divisor)))
        return " ".join([str(location), *coordinates])

    def as_computed(self, desk, system, goals, jumps, condition):
        try:
            values = len(critical_values(system, goals, jumps=jumps))
        except OutOfRange:
            for command in (f"values {jumps}", "range 0 " + " ".join(map(str, [jumps, *condition]))):
                with self.assertRaises(OutOfRange):
                    desk.ask(command)
            return
        self.assertEqual(desk.ask(f"values {jumps}"), str(values))
        for location in range(len(system[2])):
            found = value_range(system, location, condition, jumps=jumps)
            expected = "none"
            if found is not None:
                expected = " ".join("open" if value is None else fraction_text(value) for value in found)
            words = " ".join(map(str, [location, jumps, *condition]))
            self.assertEqual(desk.ask("range " + words), expected)


def goal_of(system, command):
    """Return the region of a goal command."""
    _, location, *row = command.split(" ")
    return int(location), polyhedron(system[0], [[int(word) for word in row]])


if __name__ == "__main__":
    unittest.main()
