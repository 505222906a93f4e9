"""Points 2 and 34: numbers in the answers of a desk have any number of digits."""

import sys
import unittest
from random import Random

from floodmark.desk import Desk
from floodmark.poly import polyhedron
from tests.commands import CommandTest
from tests.searches import counter
from tests.slow import both_ways

# Unless it is told otherwise, Python writes and reads no number of more than 4300 digits at once.
LENGTHS = (1, 2, 63, 64, 65, 127, 128, 129, 192, 193, 640, 641, 4299, 4300, 4301, 5000, 9001)
ZEROS = "0" * 4400
BIG = 10 ** 4400


def number_of(text):
    """Return the integer that decimal digits stand for, read one by one."""
    total = 0
    for digit in text:
        total = 10 * total + int(digit)
    return total


def still_at(top, low=1):
    """Return a system with one variable that does not change, at top / low."""
    return 1, 0, [([], [[1, 0]])], [], [(0, polyhedron(1, [], [[-top, low]]))]


def texts_of_length(length, rng):
    """Return the digits of some numbers, among them those with many zeros inside and with nines only."""
    half = length // 2
    return [
        "1" + "0" * (length - 1),
        "9" * length,
        ("7" + "0" * half + random_digits(length, rng))[:length],
        (str(rng.randint(1, 9)) + random_digits(length, rng))[:length],
    ]


def random_digits(length, rng):
    return "".join(rng.choice("0123456789") for _ in range(length))


class LongNumberTest(CommandTest):

    def same_text(self, answer, expected):
        # The method of the base class would take long to show where long lines differ.
        self.assertIs(type(answer), str)
        self.assertTrue(answer == expected, f"{answer[:90]} .. {answer[-90:]}")

    def shown(self, top, low, text, negative):
        """Check that the value top / low and its negative are shown as these texts."""
        desk = Desk(still_at(top, low))
        self.same_text(desk.ask("range 0 0 0 1"), f"{text} {text}")
        self.same_text(desk.ask("range 0 20 0 -1"), f"{negative} {negative}")
        self.assertEqual(desk.ask("goal 0 0 0"), "1")
        self.assertEqual(desk.ask("search 0"), "reached 0 0")
        self.same_text(desk.ask("path 0"), f"0 {text}")
        self.assertEqual(desk.ask("book 0"), "none")
        self.assertEqual(desk.ask("values 0"), "1")

    def shown_with_both_signs(self, top, low, text):
        self.shown(top, low, text, f"-{text}")
        self.shown(-top, low, f"-{text}", text)

    def test_integers(self):
        rng = Random(342)
        for length in LENGTHS:
            for text in texts_of_length(length, rng):
                with self.subTest(length=length, start=text[:9]):
                    self.shown_with_both_signs(number_of(text), 1, text)
        self.shown(0, 1, "0", "0")

    def test_fractions(self):
        rng = Random(343)
        for length in LENGTHS:
            for text in texts_of_length(length, rng):
                # A number next to the tenfold one has no divisor in common with it.
                number = number_of(text)
                with self.subTest(length=length, start=text[:9]):
                    self.shown_with_both_signs(10 * number + 1, 10 * number, f"{text}1/{text}0")
                    self.shown_with_both_signs(10 * number, 10 * number + 1, f"{text}0/{text}1")
                    self.shown_with_both_signs(1, 10 * number, f"1/{text}0")
                    self.shown_with_both_signs(10 * number + 1, 10, f"{text}1/10")

    def test_lowest_terms(self):
        self.shown_with_both_signs(BIG * 10, BIG * 4, "5/2")
        self.shown_with_both_signs(BIG * 10, BIG, "10")
        self.shown_with_both_signs(BIG * 6, 4, f"15{ZEROS[1:]}")
        self.shown_with_both_signs(6, BIG * 9, f"1/15{ZEROS[1:]}")

    def test_states_of_a_run(self):
        # The first variable rises from BIG, and the second one is 3 / BIG; the jump changes their signs.
        system = (
            2, 0, [([], [[1, 2, 0]]), ([], [[1, 0, 0]])],
            [(0, 1, both_ways([[0, 1, 0, 1, 0], [0, 0, 1, 0, 1]]))],
            [(0, polyhedron(2, [], [[-BIG, 1, 0], [-3, 0, BIG]]))],
        )
        desk = Desk(system)
        self.assertEqual(desk.ask("search 5"), "closed 2")
        self.assertTrue(desk.ask("book 5").endswith(" accepted"))
        self.assertEqual(desk.ask("goal 1 0 0 -1"), "1")
        self.assertEqual(desk.ask("search 5"), "reached 1 1")
        self.same_text(desk.ask("path 5"), f"0 1{ZEROS} 3/1{ZEROS}; 1 -1{ZEROS} -3/1{ZEROS}")
        self.same_text(desk.ask("range 0 5 0 1 0"), f"1{ZEROS} open")
        self.same_text(desk.ask("range 1 5 0 1 0"), f"open -1{ZEROS}")
        # 7 + 6 / BIG, divided by 2 above and below the line.
        value = f"35{ZEROS[2:]}3/5{ZEROS[1:]}"
        self.same_text(desk.ask("range 1 5 7 0 -2"), f"{value} {value}")
        self.assertEqual(desk.ask("range 1 0 7 0 -2"), "none")

    def test_two_bounds(self):
        system = (1, 0, [([], [[1, 0]])], [], [(0, polyhedron(1, [[3, BIG], [BIG + 7, -1]]))])
        desk = Desk(system)
        self.same_text(desk.ask("range 0 0 0 1"), f"-3/1{ZEROS} 1{ZEROS[1:]}7")
        self.same_text(desk.ask("range 0 0 1 -1"), f"-1{ZEROS[1:]}6 1{ZEROS[1:]}3/1{ZEROS}")

    def test_numbers_that_grow_with_the_jumps(self):
        self.check(counter([-1, -1000000, 1]), """
            goal 0 -9999999 1 -> 1
            path 20 -> 0 0; 0 1; 0 1000001; 0 1000001000001
        """)
        desk = Desk(counter([-1, -1000000, 1]))
        self.assertEqual(desk.ask("range 0 20 0 1"), "0 " + "1" + "000001" * 19)
        self.assertEqual(desk.ask("range 0 20 0 -1"), "-1" + "000001" * 19 + " 0")

    def test_the_limit_of_python_does_not_matter(self):
        before = sys.get_int_max_str_digits()
        self.addCleanup(sys.set_int_max_str_digits, before)
        text = "12345678" * 700
        number = number_of(text)
        for limit in (640, 4300, 0):
            with self.subTest(limit=limit):
                sys.set_int_max_str_digits(limit)
                self.shown_with_both_signs(number, 1, text)
                self.shown_with_both_signs(1, number, f"1/{text}")


if __name__ == "__main__":
    unittest.main()
