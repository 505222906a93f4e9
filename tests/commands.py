"""Test cases that ask a desk."""

from floodmark.desk import Desk
from floodmark.errors import BadCommand
from tests.checking import ProgramTest


class CommandTest(ProgramTest):
    """A test case that checks the answers to commands."""

    def check(self, system, text):
        """Check the answers to commands, one on each line, that are asked one after the other."""
        desk = Desk(system)
        for line in text.strip().splitlines():
            command, expected = line.strip().split(" -> ")
            with self.subTest(command=command):
                answer = desk.ask(command)
                self.assertIs(type(answer), str)
                self.assertEqual(answer, expected)

    def refused(self, system, *commands):
        desk = Desk(system)
        for command in commands:
            with self.subTest(command=command):
                with self.assertRaises(BadCommand):
                    desk.ask(command)
        self.assertEqual(desk.ask("goal 0" + " 0" * (system[0] + 1)), "1")
