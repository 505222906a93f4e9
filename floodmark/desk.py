"""The desk, which answers commands about a system."""

from floodmark.books import write_book
from floodmark.certificate import is_certificate
from floodmark.errors import BadCommand
from floodmark.maker import make_certificate
from floodmark.parameters import critical_values, value_range
from floodmark.poly import polyhedron
from floodmark.runs import states_of
from floodmark.search import search
from floodmark.system import check_system
from floodmark.vectors import fraction

MOST_DIGITS = 7
MOST_JUMPS = 20

# Python refuses to write a number of thousands of digits at once, so it is written in parts.
PART_DIGITS = 64
PART = 10 ** 64

# What follows each first word: a location L, a number of jumps K, a condition C.
FORMS = {"goal": "LC", "clear": "", "search": "K", "path": "K", "book": "K", "values": "K", "range": "LKC"}


def copied(value):
    """Return a value with new lists throughout."""
    if isinstance(value, list):
        return [copied(item) for item in value]
    if isinstance(value, tuple):
        return tuple([copied(item) for item in value])
    return value


def number_of(word):
    """Return the number that a word stands for; raise BadCommand if it stands for none."""
    digits = word.removeprefix("-")
    if not (digits.isascii() and digits.isdigit()) or len(digits) > MOST_DIGITS:
        raise BadCommand("a word is not a number")
    if digits.startswith("0") and word != "0":
        raise BadCommand("a number begins with 0")
    return int(word)


def numbers_in(system, words):
    """Return the numbers behind the first word of a command; raise BadCommand if it is none."""
    if "" in words or words[0] not in FORMS:
        raise BadCommand("the command is unknown")
    form = FORMS[words[0]]
    numbers = [number_of(word) for word in words[1:]]
    # A condition has one number for each variable, and one in front.
    many = len(form) + (system[0] if "C" in form else 0)
    if len(numbers) != many:
        raise BadCommand("the number of words is wrong")
    for kind, number in zip(form, numbers):
        if kind == "L" and number not in range(len(system[2])):
            raise BadCommand("there is no such location")
        if kind == "K" and number not in range(MOST_JUMPS + 1):
            raise BadCommand("the number of jumps is not from 0 to 20")
    return numbers


def integer_text(number):
    """Return the decimal digits of an integer of any length, with a minus sign if it is negative."""
    left = abs(number)
    parts = []
    while left >= PART:
        left, part = divmod(left, PART)
        parts.append(str(part).zfill(PART_DIGITS))
    parts.append(str(left))
    sign = "-" if number < 0 else ""
    return sign + "".join(parts[::-1])


def fraction_text(value):
    """Return a fraction as an integer or as TOP/LOW."""
    top, low = value
    return integer_text(top) if low == 1 else f"{integer_text(top)}/{integer_text(low)}"


def bound_text(value):
    """Return a bound of a range as a fraction, or as open."""
    return "open" if value is None else fraction_text(value)


def state_text(state):
    """Return the location of a state and its coordinates."""
    location, point = state
    coordinates = [fraction_text(fraction(item, point[0])) for item in point[1:]]
    return " ".join([str(location)] + coordinates)


class Desk:
    """A desk for a system, with a list of goals."""

    def __init__(self, system):
        check_system(system)
        self._system = copied(system)
        self._goals = []

    def ask(self, command):
        """Return the answer to a command; raise BadCommand if it is none."""
        words = command.split(" ")
        numbers = numbers_in(self._system, words)
        word = words[0]
        if word == "goal":
            return self.goal_answer(numbers[0], numbers[1:])
        if word == "clear":
            self._goals = []
            return "ok"
        if word == "search":
            return self.search_answer(numbers[0])
        if word == "path":
            return self.path_answer(numbers[0])
        if word == "book":
            return self.book_answer(numbers[0])
        if word == "values":
            return str(len(critical_values(self._system, self._goals, jumps=numbers[0])))
        return self.range_answer(numbers[0], numbers[1], numbers[2:])

    def goal_answer(self, location, condition):
        """Add the points of a location at which a condition holds to the goals."""
        region = polyhedron(self._system[0], [condition])
        if region is None:
            return "empty"
        self._goals.append((location, region))
        return str(len(self._goals))

    def result(self, fuel):
        """Return the result of the search for the goals."""
        return search(self._system, self._goals, fuel=fuel)

    def search_answer(self, fuel):
        """Tell what a search finds."""
        found = self.result(fuel)
        if found[0] == "reached":
            _, _, run = found
            jumps = [step for step in run if step[0] == "jump"]
            return f"reached {len(jumps)} {len(run)}"
        if found[0] == "closed":
            _, nodes = found
            return f"closed {len(nodes)}"
        return "unknown"

    def path_answer(self, fuel):
        """Tell the states of a run to a goal."""
        found = self.result(fuel)
        if found[0] != "reached":
            return "none"
        _, state, run = found
        return "; ".join([state_text(each) for each in states_of(self._system, state, run)])

    def book_answer(self, fuel):
        """Tell how long the book of a certificate is, and whether it is accepted."""
        found = self.result(fuel)
        if found[0] != "closed":
            return "none"
        _, nodes = found
        certificate = make_certificate(self._system, self._goals, nodes)
        verdict = "accepted" if is_certificate(self._system, self._goals, certificate) else "refused"
        return f"{len(write_book(certificate))} {verdict}"

    def range_answer(self, location, jumps, condition):
        """Tell the least and the greatest value of a condition."""
        found = value_range(self._system, location, condition, jumps=jumps)
        if found is None:
            return "none"
        least, greatest = found
        return f"{bound_text(least)} {bound_text(greatest)}"
