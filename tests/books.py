"""Lists of pairs that several tests ask about: some are books, some are none."""

import itertools
from fractions import Fraction

from lampcode.counting import counts_of
from lampcode.joining import book_of

SIGNS = "".join(chr(number) for number in range(32, 127) if number != 37)
OF_POINT_5 = [("a", 1), ("b", 2), ("c", 2)]
MANY_FIGURES = 10 ** 40

NO_BOOKS = (
    # One sign with another length than 1.
    [("a", 0)],
    [("a", 2)],
    [("a", 100)],
    [("a", -1)],
    [("a", MANY_FIGURES)],
    [("a", -MANY_FIGURES)],
    # Parts that are more than the whole.
    [("a", 1), ("b", 1), ("c", 1)],
    [("a", 1), ("b", 1), ("c", 2)],
    [("a", 1), ("b", 1), ("c", 60)],
    [("a", 1), ("b", 1), ("c", MANY_FIGURES)],
    [("a", 1), ("b", 2), ("c", 2), ("d", 3)],
    # Parts that are less than the whole.
    [("a", 1), ("b", 2)],
    [("a", 2), ("b", 2)],
    [("a", 1), ("b", 2), ("c", 3)],
    [("a", 1), ("b", 100)],
    [("a", 120), ("b", 120)],
    [("a", 1), ("b", MANY_FIGURES)],
    # Signs out of order, or twice.
    [("b", 1), ("a", 1)],
    [("a", 2), ("c", 2), ("b", 1)],
    [("a", 1), ("Z", 1)],
    [("0", 1), (" ", 1)],
    [("a", 1), ("a", 1)],
    [("a", 1), ("b", 2), ("b", 2)],
    [("a", 2), ("b", 1), ("a", 2)],
    # A length that is below one.
    [("a", 0), ("b", 1)],
    [("a", 0), ("b", 0)],
    [("a", 1), ("b", 0)],
    [("a", 1), ("b", 1), ("c", 0)],
    [("a", 1), ("b", -1)],
    [("a", -1), ("b", 1), ("c", 1)],
    [("a", 1), ("b", -MANY_FIGURES)],
    [("a", 1), ("b", 2), ("c", -MANY_FIGURES)],
    [("a", -MANY_FIGURES), ("b", MANY_FIGURES)],
)


def chain(signs):
    """The lengths 1, 2, 3 and on, the last one twice."""
    last = len(signs) - 1
    return [(sign, min(place, last)) for place, sign in enumerate(signs, start=1)]


def small_lists():
    for size in range(6):
        for row in itertools.product(range(-1, 6), repeat=size):
            yield list(zip("AZaz~", row))


def is_small_book(book):
    lengths = [length for sign, length in book]
    if len(lengths) < 2:
        return lengths in ([], [1])
    return min(lengths) >= 1 and sum(Fraction(1, 2 ** length) for length in lengths) == 1


def some_books():
    for book in small_lists():
        if is_small_book(book):
            yield book
    yield chain(SIGNS[:12])
    yield list(zip(SIGNS, [length for sign, length in reversed(chain(SIGNS))]))
    yield chain(SIGNS)
    yield [(sign, 6) for sign in SIGNS[:64]]
    yield book_of(counts_of("a lamp tells by short and long flashes what it has to tell"))
