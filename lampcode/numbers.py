"""Rows of flashes told as whole numbers, and whole numbers as rows of flashes."""

from lampcode.codes import LONG, SHORT
from lampcode.errors import NoFlash


def number_of(flashes):
    number = 1
    for flash in flashes:
        number = 2 * number + added_by(flash)
    return number


def added_by(flash):
    if flash == SHORT:
        return 0
    if flash == LONG:
        return 1
    raise NoFlash("a sign is neither a short nor a long flash")


def flashes_of(number):
    if number < 1:
        raise NoFlash("no row of flashes has a number below one")
    row = []
    rest = number
    while rest > 1:
        row.append(LONG if rest % 2 == 1 else SHORT)
        rest = rest // 2
    # The last flash is taken off a number first.
    return "".join(reversed(row))
