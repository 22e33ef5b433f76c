"""Books written as notes, and notes read to a book again."""

from lampcode.codes import is_book, refuse_unless_book
from lampcode.errors import NoNotes


def shown(book):
    refuse_unless_book(book)
    return [f"{length} {sign}" for sign, length in book]


def read_notes(notes):
    length_of = lengths_by_figures(len(notes))
    book = [pair_of(note, length_of) for note in notes]
    if not is_book(book):
        raise NoNotes("the pairs of the notes are those of no book")
    return book


def lengths_by_figures(most):
    # No length of a book is more than its signs are. Looking figures up among
    # the few that are left takes each length in its one written form alone.
    return dict([(str(length), length) for length in range(1, most + 1)])


def pair_of(note, length_of):
    # The sign may be a blank itself, so the first blank is the one between.
    parts = note.partition(" ")
    figures = parts[0]
    sign = parts[2]
    if figures not in length_of or len(sign) != 1:
        raise NoNotes("a note is not a length, a blank and a sign")
    return (sign, length_of[figures])
