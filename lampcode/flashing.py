"""Texts told by a book as flashes, and flashes heard as texts again."""

from lampcode.codes import codes, refuse_unless_book
from lampcode.errors import NoFlash, NoSign


def told(book, text):
    code_of = dict(codes(book))
    return "".join([found(code_of, sign) for sign in text])


def length_by(book, counts):
    refuse_unless_book(book)
    length_of = dict(book)
    return sum([found(length_of, sign) * count for sign, count in counts])


def found(value_of, sign):
    if sign not in value_of:
        raise NoSign("a sign is not in the book")
    return value_of[sign]


def heard(book, flashes):
    sign_of = dict([(code, sign) for sign, code in codes(book)])
    longest = max([length for sign, length in book], default=0)
    signs = []
    row = ""
    for flash in flashes:
        row = row + flash
        if row in sign_of:
            signs.append(sign_of[row])
            row = ""
        elif len(row) >= longest:
            # No code is longer, so none begins with this row. Refused here and
            # not at the end, the row stays short however many flashes follow.
            raise NoFlash("some flashes begin no code")
    if row != "":
        raise NoFlash("the flashes at the end are no whole code")
    return "".join(signs)
