"""Books: certificates written as lists of integers."""

from floodmark.errors import BadBook


def in_order(parts):
    """Return how many parts there are, followed by the numbers of all of them."""
    return [len(parts)] + [number for part in parts for number in part]


def piece_numbers(piece):
    """Return the numbers that stand for a piece."""
    return in_order([[len(condition)] + condition for condition in piece])


def claim_numbers(claim):
    """Return the numbers that stand for a claim."""
    index, found = claim
    parts = [[scale, len(factors)] + factors for scale, factors in found]
    return [-1 if index is None else index] + in_order(parts)


def row_numbers(claims):
    """Return the numbers that stand for a list of claims."""
    return in_order([claim_numbers(claim) for claim in claims])


def write_book(certificate):
    """Return the book of a certificate."""
    pieces, starts, waits, jumps, ends = certificate
    book = in_order([in_order([piece_numbers(piece) for piece in row]) for row in pieces])
    book = book + row_numbers(starts)
    for rows in (waits, jumps, ends):
        book = book + in_order([row_numbers(row) for row in rows])
    return book


# Each function that reads gets the numbers and a place, and returns what is written there and
# the place behind it.


def read_integer(numbers, place):
    """Read an integer."""
    if place >= len(numbers):
        raise BadBook("the book ends too early")
    return numbers[place], place + 1


def read_list(numbers, place, read_item):
    """Read a list whose items are read by the function."""
    many, place = read_integer(numbers, place)
    if many < 0:
        raise BadBook("a length is negative")
    found = []
    # A length may be much greater than the book; the items end with it at the latest.
    while len(found) < many:
        item, place = read_item(numbers, place)
        found.append(item)
    return found, place


def read_vector(numbers, place):
    """Read a list of integers."""
    return read_list(numbers, place, read_integer)


def read_piece(numbers, place):
    """Read a list of conditions."""
    return read_list(numbers, place, read_vector)


def read_pieces(numbers, place):
    """Read the list of the pieces of a location."""
    return read_list(numbers, place, read_piece)


def read_multipliers(numbers, place):
    """Read a scale and a list of factors."""
    scale, place = read_integer(numbers, place)
    factors, place = read_vector(numbers, place)
    return (scale, factors), place


def read_claim(numbers, place):
    """Read an index and a list of multipliers."""
    index, place = read_integer(numbers, place)
    if index < -1:
        raise BadBook("an index is less than -1")
    found, place = read_list(numbers, place, read_multipliers)
    return (None if index == -1 else index, found), place


def read_claims(numbers, place):
    """Read a list of claims."""
    return read_list(numbers, place, read_claim)


def check_pieces(pieces, n):
    """Raise BadBook if a condition has another length than n + 1."""
    for row in pieces:
        for piece in row:
            for condition in piece:
                if len(condition) != n + 1:
                    raise BadBook("a condition has a wrong length")


def read_book(numbers, *, n):
    """Return the certificate whose book it is, with pieces in n variables; raise BadBook if there is none."""
    pieces, place = read_list(numbers, 0, read_pieces)
    check_pieces(pieces, n)
    starts, place = read_claims(numbers, place)
    waits, place = read_list(numbers, place, read_claims)
    jumps, place = read_list(numbers, place, read_claims)
    ends, place = read_list(numbers, place, read_claims)
    if place != len(numbers):
        raise BadBook("the book goes on after the certificate")
    return pieces, starts, waits, jumps, ends
