"""Texts pressed to a book and flashes, and read from these again."""

from lampcode.counting import counts_of
from lampcode.errors import NoText
from lampcode.flashing import heard, told
from lampcode.joining import book_of


def pressed(text):
    book = book_of(counts_of(text))
    return (book, told(book, text))


def read(book, flashes):
    text = heard(book, flashes)
    # The same book tells the text by the same flashes, so these need no second look.
    if book_of(counts_of(text)) != book:
        raise NoText("the text that is heard is pressed to another book")
    return text
