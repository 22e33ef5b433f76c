import itertools
import unittest

from books import NO_BOOKS, OF_POINT_5, SIGNS, chain, is_small_book, small_lists, some_books
from lampcode.counting import counts_of
from lampcode.errors import LampError, NoBook, NoFlash, NoSign, NoText
from lampcode.flashing import heard, length_by, told
from lampcode.joining import book_of
from lampcode.pressing import pressed, read

LONG_TEXTS = (
    "z" * 900,
    "az" * 450,
    (SIGNS * 10)[:900],
    "".join(sign * (place + 1) for place, sign in enumerate(SIGNS))[:900],
    "".join(SIGNS[place * place * 11 % len(SIGNS)] for place in range(900)),
    # Counts 1, 1, 2, 4 and on make a long chain of lengths.
    "".join(sign * 2 ** place for place, sign in enumerate("ihgfedcba"))[:900],
    ("a lamp tells by short and long flashes what it has to tell; " * 15)[:900],
    # Somewhat beyond what point 1 bounds.
    "lamp" * 300,
)


def small_texts():
    for size in range(7):
        for row in itertools.product("abc", repeat=size):
            yield "".join(row)


class Pressed(unittest.TestCase):
    """Point 14."""

    def test_the_empty_text(self):
        self.assertEqual(pressed(""), ([], ""))

    def test_a_text_with_the_counts_of_point_5(self):
        self.assertEqual(pressed("abaca"), (OF_POINT_5, ".-..--."))
        self.assertEqual(pressed("cbaaa"), (OF_POINT_5, "---...."))

    def test_one_sign(self):
        self.assertEqual(pressed("a"), ([("a", 1)], "."))
        self.assertEqual(pressed(" " * 900), ([(" ", 1)], "." * 900))

    def test_two_signs(self):
        self.assertEqual(pressed("ba"), ([("a", 1), ("b", 1)], "-."))
        self.assertEqual(pressed("bbbbbbba"), ([("a", 1), ("b", 1)], "-------."))

    def test_a_text_of_five_signs(self):
        # a is ., r is -., b is --., c is ---. and d is ----.
        self.assertEqual(
            pressed("abracadabra"),
            ([("a", 1), ("b", 3), ("c", 4), ("d", 4), ("r", 2)], ".--.-..---..----.--.-.."),
        )

    def test_the_book_of_its_counts_and_the_flashes_by_it(self):
        for text in [*small_texts(), *LONG_TEXTS]:
            book = book_of(counts_of(text))
            self.assertEqual(pressed(text), (book, told(book, text)))

    def test_every_sign_of_a_text(self):
        for sign in SIGNS:
            self.assertEqual(pressed(sign * 3), ([(sign, 1)], "..."))

    def test_as_many_flashes_as_asked_without_the_text(self):
        for text in LONG_TEXTS:
            book, flashes = pressed(text)
            self.assertEqual(length_by(book, counts_of(text)), len(flashes))

    def test_kinds(self):
        for text in ("", "a", "abaca"):
            told_as = pressed(text)
            self.assertIs(type(told_as), tuple)
            self.assertEqual([type(part) for part in told_as], [list, str])
            for pair in told_as[0]:
                self.assertIs(type(pair), tuple)


class Read(unittest.TestCase):
    """Point 15."""

    def test_the_empty_text(self):
        self.assertEqual(read([], ""), "")

    def test_the_book_of_point_5(self):
        self.assertEqual(read(OF_POINT_5, ".-..--."), "abaca")

    def test_what_a_text_is_pressed_to_is_read_to_it(self):
        for text in [*small_texts(), *LONG_TEXTS, *SIGNS, SIGNS]:
            book, flashes = pressed(text)
            self.assertEqual(read(book, flashes), text)

    def test_one_sign_many_times(self):
        self.assertEqual(read([("a", 1)], "."), "a")
        self.assertEqual(read([("a", 1)], "." * 20000), "a" * 20000)

    def test_a_text_that_is_pressed_to_another_book(self):
        asked = (
            # No text, by a book that is not empty.
            ([("a", 1)], ""),
            (OF_POINT_5, ""),
            # Not all signs of the book.
            ([("a", 1), ("b", 1)], "."),
            ([("a", 1), ("b", 1)], "---"),
            (OF_POINT_5, "."),
            (OF_POINT_5, "-.--"),
            (OF_POINT_5, ".-..-."),
            # All signs of the book, with other counts than would give the lengths.
            (OF_POINT_5, "-.--.----"),
            ([("a", 2), ("b", 2), ("c", 1)], "-.--.-.-."),
            ([("a", 1), ("b", 2), ("c", 3), ("d", 3)], ".-.--.---"),
            # As few flashes as can be, but by another of the books that need so few.
            ([("a", 2), ("b", 1), ("c", 2)], "-..--"),
            ([("a", 2), ("b", 2), ("c", 2), ("d", 2)], "...--.-.----"),
        )
        for book, flashes in asked:
            self.assertNotEqual(pressed(heard(book, flashes))[0], book)
            self.assertRaises(NoText, read, book, flashes)

    def test_a_book_as_good_as_that_of_the_counts_is_refused_all_the_same(self):
        # By equal counts a and b are joined first, so c alone has the length 1.
        self.assertEqual(pressed("abc")[0], [("a", 2), ("b", 2), ("c", 1)])
        self.assertEqual(read([("a", 2), ("b", 2), ("c", 1)], "-.--."), "abc")
        self.assertRaises(NoText, read, OF_POINT_5, ".-.--")
        self.assertRaises(NoText, read, [("a", 2), ("b", 1), ("c", 2)], "-..--")

    def test_flashes_that_no_text_is_heard_by(self):
        for flashes in ("-", ".-..--.-", "x", ".-..--.x", "x.-..--.", "abaca", " "):
            self.assertRaises(NoFlash, read, OF_POINT_5, flashes)
        for flashes in ("-", ".-", "..x"):
            self.assertRaises(NoFlash, read, [("a", 1)], flashes)
        for flashes in (".", "-", "x"):
            self.assertRaises(NoFlash, read, [], flashes)

    def test_no_flash_goes_ahead_of_no_text(self):
        # The lengths are of no text of these flashes, and these are no whole codes either.
        self.assertRaises(NoFlash, read, chain(SIGNS), "-")
        self.assertRaises(NoFlash, read, chain(SIGNS), ".x")
        self.assertRaises(NoFlash, read, OF_POINT_5, "-.-")

    def test_no_book_goes_ahead_of_all(self):
        for book in NO_BOOKS:
            for flashes in ("", ".", "-", "x", ".x", ".-.-."):
                self.assertRaises(NoBook, read, book, flashes)
        for book in small_lists():
            if not is_small_book(book):
                self.assertRaises(NoBook, read, book, "")

    def test_all_short_rows_by_some_books(self):
        books = [[], [("a", 1)], [("a", 1), ("b", 1)], OF_POINT_5, [("a", 2), ("b", 2), ("c", 1)]]
        text_of = {}
        for text in small_texts():
            book, flashes = pressed(text)
            text_of[(str(book), flashes)] = text
        for book in books:
            for size in range(7):
                for row in itertools.product(".-", repeat=size):
                    flashes = "".join(row)
                    if (str(book), flashes) in text_of:
                        self.assertEqual(read(book, flashes), text_of[(str(book), flashes)])
                    else:
                        self.assertRaises((NoFlash, NoText), read, book, flashes)

    def test_refusals_are_lamp_errors_and_value_errors_and_none_is_another(self):
        asked = ((NoBook, [("a", 2)], ".."), (NoFlash, OF_POINT_5, "-"), (NoText, OF_POINT_5, "."))
        for wanted, book, flashes in asked:
            with self.assertRaises(ValueError) as caught:
                read(book, flashes)
            self.assertIsInstance(caught.exception, LampError)
            for refusal in (NoBook, NoSign, NoFlash, NoText):
                self.assertEqual(isinstance(caught.exception, refusal), refusal is wanted)

    def test_the_book_is_unchanged(self):
        for book in [*some_books(), *NO_BOOKS]:
            for flashes in ("", ".-..--.", "x"):
                handed = list(book)
                try:
                    read(handed, flashes)
                except LampError:
                    pass
                self.assertEqual(handed, book)

    def test_a_kind(self):
        self.assertIs(type(read([], "")), str)
        self.assertIs(type(read([("a", 1)], "..")), str)


if __name__ == "__main__":
    unittest.main()
