"""Point 33: certificates written as lists of integers, and read again."""

import unittest
from random import Random

from floodmark.books import read_book, write_book
from floodmark.certificate import is_certificate
from floodmark.errors import BadBook
from floodmark.maker import make_certificate
from tests.checking import ProgramTest
from tests.examples import CLOCK, NO_VARIABLES, STILL, TANK
from tests.proofs import LAMP, LAMP_GOALS, LAMP_PROOF, RAMP, RAMP_GOALS
from tests.searches import TURN, all_nodes

LAMP_BOOK = [
    # Two locations; the first one has one piece of no conditions, the second one a piece of one.
    2, 1, 0, 1, 1, 2, -8, 1,
    # One start: the index 0 and no multipliers.
    1, 0, 0,
    # Two locations with one wait each.
    2, 1, 0, 0, 1, 0, 1, 1, 1, 1,
    # One jump from one piece, with one tuple of multipliers: the scale 1 and four factors.
    1, 1, 0, 1, 1, 4, 0, 1, 1, 0,
    # One goal and one piece of its location.
    1, 1, -1, 1, 1, 2, 1, 1,
]

EMPTY = ([], [], [], [], [])


class SlowReader:
    """Reads a book item by item, and fails with ValueError."""

    def __init__(self, numbers):
        self.left = list(numbers)

    def number(self, least=None):
        if not self.left or (least is not None and self.left[0] < least):
            raise ValueError
        return self.left.pop(0)

    def several(self, item):
        return [item() for _ in range(self.number(0))]

    def condition(self, n):
        found = self.several(self.number)
        if len(found) != n + 1:
            raise ValueError
        return found

    def claim(self):
        index = self.number(-1)
        return index if index >= 0 else None, self.several(lambda: (self.number(), self.several(self.number)))

    def claims(self):
        return self.several(self.claim)

    def certificate(self, n):
        found = (
            self.several(lambda: self.several(lambda: self.several(lambda: self.condition(n)))), self.claims(),
            self.several(self.claims), self.several(self.claims), self.several(self.claims))
        if self.left:
            raise ValueError
        return found


def random_list(rng, item, most=3):
    return [item() for _ in range(rng.randint(0, most))]


def random_certificate(rng, n):
    """Return a certificate with any lengths and numbers."""
    def number():
        return rng.choice([0, 1, -1, rng.randint(-9, 9), rng.randint(-10 ** 20, 10 ** 20)])

    def multipliers():
        return number(), random_list(rng, number)

    def claim():
        return rng.choice([None, 0, 1, rng.randint(0, 9 ** 20)]), random_list(rng, multipliers)

    def claims():
        return random_list(rng, claim, 2)

    def piece():
        return random_list(rng, lambda: [number() for _ in range(n + 1)])

    return (random_list(rng, lambda: random_list(rng, piece)), claims(), random_list(rng, claims),
            random_list(rng, claims), random_list(rng, claims))


class BooksTest(ProgramTest):

    def check(self, certificate, book, n):
        with self.subTest(certificate=certificate):
            self.assertEqual(self.call_for_integers(write_book, certificate), book)
            self.assertEqual(self.call(read_book, book, n=n), certificate)

    def refused(self, numbers, n):
        before = list(numbers)
        with self.subTest(numbers=numbers, n=n):
            with self.assertRaises(BadBook):
                read_book(numbers, n=n)
            self.assertEqual(numbers, before)

    def test_an_example(self):
        self.check(LAMP_PROOF, LAMP_BOOK, 1)

    def test_empty_lists(self):
        for n in range(4):
            self.check(EMPTY, [0, 0, 0, 0, 0], n)
        self.check(([[]], [], [[]], [], []), [1, 0, 0, 1, 0, 0, 0], 0)
        self.check(([[], [[]], [[], []]], [], [[]], [[], []], []), [3, 0, 1, 0, 2, 0, 0, 0, 1, 0, 2, 0, 0, 0], 2)

    def test_indexes(self):
        self.check(([], [(None, [])], [], [], []), [0, 1, -1, 0, 0, 0, 0], 1)
        self.check(([], [(0, [])], [], [], []), [0, 1, 0, 0, 0, 0, 0], 1)
        self.check(([], [(7, [])], [], [], []), [0, 1, 7, 0, 0, 0, 0], 1)
        self.check(([], [], [[(None, [(1, [])])]], [[(3, [])]], [[(None, []), (2, [])]]),
                   [0, 0, 1, 1, -1, 1, 1, 0, 1, 1, 3, 0, 1, 2, -1, 0, 2, 0], 1)

    def test_large_and_negative_numbers(self):
        high = 10 ** 50
        certificate = ([[[[-high, high, -1]]]], [(high, [(-high, [high, -3])])], [], [[(None, [(0, [-1, 0])])]], [])
        book = [1, 1, 1, 3, -high, high, -1, 1, high, 1, -high, 2, high, -3, 0, 1, 1, -1, 1, 0, 2, -1, 0, 0]
        self.check(certificate, book, 2)

    def test_scales_and_factors_may_be_any_integers(self):
        for scale in (-5, -1, 0, 1):
            for factor in (-5, -1, 0, 1):
                self.check(([], [(0, [(scale, [factor])])], [], [], []), [0, 1, 0, 1, scale, 1, factor, 0, 0, 0], 1)

    def test_each_part_stands_in_its_place(self):
        claim = (4, [(5, [6])])
        numbers = [4, 1, 5, 1, 6]
        self.check(([[[[8, 9]]]], [], [], [], []), [1, 1, 1, 2, 8, 9, 0, 0, 0, 0], 1)
        self.check(([], [claim], [], [], []), [0, 1, *numbers, 0, 0, 0], 1)
        self.check(([], [], [[claim]], [], []), [0, 0, 1, 1, *numbers, 0, 0], 1)
        self.check(([], [], [], [[claim]], []), [0, 0, 0, 1, 1, *numbers, 0], 1)
        self.check(([], [], [], [], [[claim]]), [0, 0, 0, 0, 1, 1, *numbers], 1)

    def test_certificates_that_are_made(self):
        for system, goals in [(TANK, []), (CLOCK, [(2, (3, [], []))]), (NO_VARIABLES, [(2, (0, [], []))]), (STILL, []),
                              (LAMP, LAMP_GOALS), (RAMP, RAMP_GOALS), (TURN, [])]:
            certificate = make_certificate(system, goals, all_nodes(system))
            book = self.call_for_integers(write_book, certificate)
            again = self.call(read_book, book, n=system[0])
            self.assertEqual(again, certificate)
            self.assertTrue(is_certificate(system, goals, again))

    def test_lists_that_end_too_early(self):
        for end in range(len(LAMP_BOOK)):
            self.refused(LAMP_BOOK[:end], 1)
        for length in range(5):
            self.refused([0] * length, 1)
        for numbers in ([1], [0, 1], [0, 1, 0], [0, 1, 0, 1], [0, 1, 0, 1, 5], [0, 1, 0, 1, 5, 2, 7]):
            self.refused(numbers, 1)

    def test_lists_that_go_on(self):
        for more in ([0], [1], [-1], [0, 0], LAMP_BOOK):
            self.refused(LAMP_BOOK + more, 1)
            self.refused([0, 0, 0, 0, 0] + more, 1)

    def test_lengths(self):
        for length in (-1, -2, -100):
            for place in range(5):
                self.refused([0] * place + [length] + [0] * (4 - place), 1)
            self.refused([1, length, 0, 0, 0, 0], 1)
            self.refused([1, 1, length, 0, 0, 0, 0], 1)
            self.refused([1, 1, 1, length, 0, 0, 0, 0], 1)
            self.refused([0, 1, 0, length, 0, 0, 0], 1)
            self.refused([0, 1, 0, 1, 1, length, 0, 0, 0], 1)
            for place in range(2, 5):
                self.refused([0] * place + [1, length] + [0] * (4 - place), 1)
        for length in (1, 10 ** 9, 10 ** 40):
            for place in range(5):
                self.refused([0] * place + [length] + [0] * (4 - place), 1)
            self.refused([0, 1, 0, 1, 1, length, 0, 0, 0], 1)

    def test_conditions_of_another_length(self):
        for n in (0, 2, 3):
            self.refused(LAMP_BOOK, n)
        for length in range(5):
            book = [1, 1, 1, length, *[7] * length, 0, 0, 0, 0]
            for n in range(4):
                if n + 1 == length:
                    self.assertEqual(read_book(book, n=n), ([[[[7] * length]]], [], [], [], []))
                else:
                    self.refused(book, n)
        # The first condition is as long as it must be, the last one of another location is not.
        self.refused([2, 1, 1, 2, 5, 6, 1, 2, 2, 7, 8, 3, 1, 1, 1, 0, 0, 0, 0], 1)

    def test_indexes_that_are_too_small(self):
        for index in (-2, -3, -10 ** 30):
            self.refused([0, 1, index, 0, 0, 0, 0], 1)
            for place in range(2, 5):
                self.refused([0] * place + [1, 1, index, 0] + [0] * (4 - place), 1)
            self.refused([0, 2, 0, 0, index, 0, 0, 0, 0], 1)

    def test_what_is_written_is_read(self):
        rng = Random(331)
        for _ in range(300):
            n = rng.randint(0, 3)
            certificate = random_certificate(rng, n)
            book = self.call(write_book, certificate)
            self.assertEqual(self.call(read_book, book, n=n), certificate)
            self.assertEqual(SlowReader(book).certificate(n), certificate)

    def test_what_is_read_is_written(self):
        rng = Random(332)
        seen = {True: 0, False: 0}
        for _ in range(3000):
            n = rng.randint(0, 2)
            book = write_book(random_certificate(rng, n))
            for _ in range(rng.randint(1, 2)):
                place = rng.randrange(len(book))
                book[place] = rng.choice([book[place] + 1, book[place] - 1, 0, 1, -1, -2, 10 ** 9])
            try:
                expected = SlowReader(book[:]).certificate(n)
            except ValueError:
                self.refused(book, n)
            else:
                found = read_book(book, n=n)
                self.assertEqual(found, expected)
                self.assertEqual(write_book(found), book)
                seen[True] += 1
                continue
            seen[False] += 1
        self.assertGreater(min(seen.values()), 500)

    def test_random_numbers(self):
        rng = Random(333)
        for _ in range(3000):
            numbers = [rng.choice([0, 0, 0, 1, 1, 2, -1, -2]) for _ in range(rng.randint(0, 14))]
            n = rng.randint(0, 1)
            try:
                expected = SlowReader(numbers).certificate(n)
            except ValueError:
                self.refused(numbers, n)
            else:
                self.assertEqual(read_book(numbers, n=n), expected)


if __name__ == "__main__":
    unittest.main()
