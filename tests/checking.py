"""What all tests share: calls that are watched for changed arguments and shared lists."""

import copy
import unittest


def lists_in(value):
    """Return all lists that occur in a value, once for each place."""
    found = [value] if isinstance(value, list) else []
    if isinstance(value, (list, tuple)):
        for item in value:
            found.extend(lists_in(item))
    return found


def plain_items(value):
    """Return all items of a value that are neither lists nor tuples."""
    if isinstance(value, (list, tuple)):
        return [found for item in value for found in plain_items(item)]
    return [value]


class ProgramTest(unittest.TestCase):
    """A test case that watches each call of a function of the program."""

    def call(self, function, *arguments, **options):
        """Return what the function returns, after checking what holds for every call."""
        before = copy.deepcopy(arguments)
        result = function(*arguments, **options)
        self.assertEqual(arguments, before, "an argument was modified")
        lists = lists_in(result)
        places = {id(item) for item in lists}
        self.assertEqual(len(places), len(lists), "a list occurs at two places")
        for item in lists_in(arguments):
            self.assertNotIn(id(item), places, "a list of an argument was returned")
        expected = copy.deepcopy(result)
        for item in lists:
            item[:] = ["changed"]
        self.assertEqual(arguments, before, "a change of a result changed an argument")
        self.assertEqual(function(*arguments, **options), expected, "a later call gave something else")
        return expected

    def call_for_integers(self, function, *arguments, **options):
        """Return what the function returns, which contains nothing but integers."""
        result = self.call(function, *arguments, **options)
        for item in plain_items(result):
            self.assertIs(type(item), int)
        return result
