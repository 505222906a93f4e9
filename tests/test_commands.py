"""Point 35: which commands a desk refuses."""

import unittest

from tests.commands import CommandTest
from tests.examples import CLOCK, NO_VARIABLES, STILL, TANK
from tests.searches import TREE


class RefusedTest(CommandTest):

    def test_empty_commands_and_words(self):
        self.refused(TANK, "", " ", "  ", " clear", "clear ", "search  3", " search 3", "search 3 ", "goal 0 0  1",
                     "goal  0 0 1", "goal 0 0 1 ", "   ")

    def test_unknown_words(self):
        self.refused(TANK, "help", "Search 3", "SEARCH 3", "searches 3", "3", "-1", "goals 0 0 1", "clear;", "search3",
                     "LKC 0 0 0 1", "K 3", "quit", "clear\n", "search\t3", "clear\tclear", "g")

    def test_a_wrong_number_of_words(self):
        self.refused(TANK, "goal", "goal 0", "goal 0 0", "goal 0 0 1 1", "clear 0", "clear clear", "search",
                     "search 1 2", "path", "path 1 2", "book", "book 1 2", "values", "values 1 2", "range", "range 0",
                     "range 0 1", "range 0 1 0", "range 0 1 0 1 1")
        self.refused(NO_VARIABLES, "goal 0", "goal 0 0 0", "range 0 0", "range 0 0 0 0", "search")
        self.refused(CLOCK, "goal 0 0 1", "goal 0 0 1 0", "goal 0 0 1 0 0 0", "range 0 1 0 1 0", "range 0 1 0 1 0 0 0")

    def test_words_that_are_no_numbers(self):
        words = [
            "-0", "00", "007", "01", "-01", "-007", "-00", "+1", "+0", "12345678", "-12345678", "10000000", "00000000",
            "-", "--1", "1-", "1.0", "1/2", "0x1", "1e1", "1_0", "x", "one", "None", "1,", "'1'", "1\n", "\t1",
            "\u0661", "-\u0661", "\u00b2",
        ]
        for word in words:
            self.refused(TANK, f"search {word}", f"path {word}", f"book {word}", f"values {word}", f"goal {word} 0 1",
                         f"goal 0 {word} 1", f"goal 0 1 {word}", f"range {word} 1 0 1", f"range 0 {word} 0 1",
                         f"range 0 1 {word} 1", f"range 0 1 0 {word}")

    def test_words_that_are_numbers(self):
        self.check(TANK, """
            goal 0 -9999999 9999999 -> 1
            goal 0 9999999 -9999999 -> 2
            goal 0 -1000000 0 -> empty
            goal 0 0 0 -> 3
            goal 0 10 -10 -> 4
            range 0 0 -9999999 0 -> -9999999 -9999999
            range 0 0 0 -1000000 -> -10000000 0
            range 0 10 0 9 -> 0 90
        """)

    def test_locations_that_do_not_exist(self):
        self.refused(TANK, "goal 3 0 1", "goal -1 0 1", "goal 9999999 0 1", "range 3 0 0 1", "range -1 0 0 1",
                     "range 8 1 0 1")
        self.refused(STILL, "goal 1 0", "goal -1 0", "range 1 0 0")

    def test_numbers_of_jumps(self):
        self.refused(TANK, *[f"{word} {many}" for word in ("search", "path", "book", "values")
                             for many in (-1, -20, 21, 22, 100, 9999999, -9999999)])
        self.refused(TANK, "range 0 -1 0 1", "range 0 21 0 1", "range 1 100 0 1")
        self.check(TANK, """
            search 20 -> closed 3
            path 20 -> none
            values 20 -> 0
            range 0 20 0 1 -> 0 10
            search 0 -> unknown
            path 0 -> none
            book 0 -> none
            values 0 -> 0
        """)

    def test_what_a_command_is_comes_first(self):
        # These searches keep too many nodes, but the commands are wrong.
        self.refused(TREE, "range 0 21 0 1", "range 1 20 0 1", "range 0 20 0 x", "range 0 20 0", "range 0 20 0 1 1",
                     "values 21", "values 20 20", "values 20 ")


if __name__ == "__main__":
    unittest.main()
