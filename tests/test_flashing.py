import itertools
import unittest

from books import NO_BOOKS, OF_POINT_5, SIGNS, chain, is_small_book, small_lists, some_books
from lampcode.codes import codes
from lampcode.counting import counts_of
from lampcode.errors import LampError, NoBook, NoFlash, NoSign, NoText
from lampcode.flashing import heard, length_by, told

ONE_SIGN = [("a", 1)]
FOUR_SIGNS = [("a", 3), ("b", 1), ("c", 3), ("d", 2)]
EIGHT_SIGNS = [(sign, 3) for sign in "abcdefgh"]
ALL_KINDS = ([], ONE_SIGN, [(" ", 1), ("~", 1)], OF_POINT_5, FOUR_SIGNS, EIGHT_SIGNS, chain(SIGNS))


def texts_of(signs, most):
    for size in range(most + 1):
        for row in itertools.product(signs, repeat=size):
            yield "".join(row)


def signs_of(book):
    return "".join(sign for sign, length in book)


def long_text(book, size):
    """Each sign of the book by turns, and each next to many others."""
    signs = signs_of(book)
    return "".join(signs[place * place * 7 % len(signs)] for place in range(size)) if signs else ""


class Told(unittest.TestCase):
    """Point 10."""

    def test_by_the_book_of_point_5(self):
        self.assertEqual(told(OF_POINT_5, "abaca"), ".-..--.")
        self.assertEqual(told(OF_POINT_5, "a"), ".")
        self.assertEqual(told(OF_POINT_5, "b"), "-.")
        self.assertEqual(told(OF_POINT_5, "c"), "--")
        self.assertEqual(told(OF_POINT_5, "cbb"), "---.-.")

    def test_the_empty_text(self):
        for book in ALL_KINDS:
            self.assertEqual(told(book, ""), "")

    def test_by_a_book_of_one_sign(self):
        self.assertEqual(told(ONE_SIGN, "a"), ".")
        self.assertEqual(told(ONE_SIGN, "a" * 900), "." * 900)
        self.assertEqual(told([(" ", 1)], "   "), "...")

    def test_signs_of_the_book_that_are_not_in_the_text(self):
        self.assertEqual(told(FOUR_SIGNS, "dcd"), "-.----.")

    def test_a_text_that_looks_like_flashes(self):
        self.assertEqual(told([("-", 1), (".", 1)], "-..-"), ".--.")

    def test_a_text_is_told_as_its_codes_one_behind_the_other(self):
        for book in some_books():
            code_of = dict(codes(book))
            text = long_text(book, 60)
            self.assertEqual(told(book, text), "".join(code_of[sign] for sign in text))

    def test_a_text_cut_in_two_is_told_as_its_two_parts(self):
        for book in ALL_KINDS:
            text = long_text(book, 40)
            for place in range(len(text) + 1):
                self.assertEqual(told(book, text), told(book, text[:place]) + told(book, text[place:]))

    def test_a_long_text_by_a_long_chain(self):
        flashes = told(chain(SIGNS), SIGNS[-1] * 900)
        self.assertEqual(flashes, "-" * (900 * (len(SIGNS) - 1)))

    def test_a_sign_that_is_not_in_the_book(self):
        for text in ("d", "dabc", "abdca", "abcd", "A", " ", "abc ", "dd", ".", "-"):
            self.assertRaises(NoSign, told, OF_POINT_5, text)
        self.assertRaises(NoSign, told, ONE_SIGN, "b")
        self.assertRaises(NoSign, told, ONE_SIGN, "aaab")
        self.assertRaises(NoSign, told, [], "a")
        self.assertRaises(NoSign, told, [], " ")
        self.assertRaises(NoSign, told, chain(SIGNS[1:]), SIGNS)

    def test_a_kind(self):
        for book in ALL_KINDS:
            self.assertIs(type(told(book, long_text(book, 3))), str)


class Heard(unittest.TestCase):
    """Point 11."""

    def test_by_the_book_of_point_5(self):
        self.assertEqual(heard(OF_POINT_5, ".-..--."), "abaca")
        self.assertEqual(heard(OF_POINT_5, "----"), "cc")

    def test_no_flashes(self):
        for book in ALL_KINDS:
            self.assertEqual(heard(book, ""), "")

    def test_what_a_text_is_told_by_is_heard_as_that_text(self):
        for text in texts_of("abc", 6):
            self.assertEqual(heard(OF_POINT_5, told(OF_POINT_5, text)), text)
        for text in texts_of("abcd", 4):
            self.assertEqual(heard(FOUR_SIGNS, told(FOUR_SIGNS, text)), text)
        for text in texts_of("a", 30):
            self.assertEqual(heard(ONE_SIGN, told(ONE_SIGN, text)), text)

    def test_long_texts_by_all_kinds_of_books(self):
        for book in some_books():
            text = long_text(book, 150)
            self.assertEqual(heard(book, told(book, text)), text)
        for book in ALL_KINDS:
            text = long_text(book, 900)
            self.assertEqual(heard(book, told(book, text)), text)

    def test_each_sign_of_a_long_chain(self):
        book = chain(SIGNS)
        for sign in SIGNS:
            self.assertEqual(heard(book, told(book, sign)), sign)
            self.assertEqual(heard(book, told(book, sign + "a" + sign)), sign + "a" + sign)

    def test_flashes_beyond_twenty_thousand(self):
        self.assertEqual(heard(ONE_SIGN, "." * 20001), "a" * 20001)
        self.assertEqual(heard(OF_POINT_5, "-" * 30000), "c" * 15000)
        book = chain(SIGNS)
        self.assertEqual(heard(book, "-" * (900 * (len(SIGNS) - 1))), SIGNS[-1] * 900)

    def test_all_short_rows(self):
        # Each row is heard as the one text that is told by it, or is refused where there is none.
        for book in ([], ONE_SIGN, [("a", 1), ("b", 1)], OF_POINT_5, FOUR_SIGNS):
            text_of = {told(book, text): text for text in texts_of(signs_of(book), 6)}
            for flashes in texts_of(".-x", 6):
                if flashes in text_of:
                    self.assertEqual(heard(book, flashes), text_of[flashes])
                else:
                    self.assertRaises(NoFlash, heard, book, flashes)

    def test_another_sign_at_any_place(self):
        for book in ([("a", 1), ("b", 1)], OF_POINT_5, FOUR_SIGNS, EIGHT_SIGNS, chain(SIGNS)):
            flashes = told(book, long_text(book, 5))
            for place in range(len(flashes) + 1):
                for other in ("x", "a", " ", "_", "+", "0", "\n", "\u2212"):
                    self.assertRaises(NoFlash, heard, book, flashes[:place] + other + flashes[place:])
                    if place < len(flashes):
                        self.assertRaises(NoFlash, heard, book, flashes[:place] + other + flashes[place + 1:])
        for flashes in ("x", "..a", ".a.", "a..", " ", ". ", "_"):
            self.assertRaises(NoFlash, heard, ONE_SIGN, flashes)

    def test_flashes_at_the_end_that_are_no_whole_code(self):
        for flashes in ("-", ".-", "..-", "---", "-.-", ".--.-"):
            self.assertRaises(NoFlash, heard, OF_POINT_5, flashes)
        for book in (EIGHT_SIGNS, FOUR_SIGNS, chain(SIGNS)):
            ahead = told(book, long_text(book, 4))
            for sign, code in codes(book):
                self.assertEqual(heard(book, ahead + code), long_text(book, 4) + sign)
                for size in range(1, len(code)):
                    self.assertRaises(NoFlash, heard, book, ahead + code[:size])

    def test_a_long_flash_by_a_book_of_one_sign(self):
        for flashes in ("-", "-.", ".-", "...-...", "--", "." * 900 + "-", "-" * 20000):
            self.assertRaises(NoFlash, heard, ONE_SIGN, flashes)

    def test_any_flash_by_the_empty_book(self):
        for flashes in (".", "-", "..", ".-", "x", " ", "." * 20000):
            self.assertRaises(NoFlash, heard, [], flashes)

    def test_a_kind(self):
        for book in ALL_KINDS:
            self.assertIs(type(heard(book, told(book, long_text(book, 3)))), str)


class LengthBy(unittest.TestCase):
    """Point 12."""

    def test_by_the_book_of_point_5(self):
        self.assertEqual(length_by(OF_POINT_5, [("a", 3), ("b", 1), ("c", 1)]), 7)
        self.assertEqual(length_by(OF_POINT_5, [("c", 5)]), 10)

    def test_no_counts(self):
        for book in ALL_KINDS:
            self.assertEqual(length_by(book, []), 0)

    def test_one_sign(self):
        self.assertEqual(length_by(ONE_SIGN, [("a", 900)]), 900)

    def test_as_many_as_the_flashes_of_the_text(self):
        for book in some_books():
            text = long_text(book, 80)
            self.assertEqual(length_by(book, counts_of(text)), len(told(book, text)))
        for text in texts_of("abcd", 5):
            self.assertEqual(length_by(FOUR_SIGNS, counts_of(text)), len(told(FOUR_SIGNS, text)))

    def test_counts_of_long_texts(self):
        for book in ALL_KINDS:
            text = long_text(book, 900)
            self.assertEqual(length_by(book, counts_of(text)), len(told(book, text)))
        self.assertEqual(length_by(FOUR_SIGNS, [("a", 10 ** 30), ("d", 1)]), 3 * 10 ** 30 + 2)

    def test_a_sign_that_is_not_in_the_book(self):
        for counts in ([("d", 1)], [("A", 2), ("a", 1)], [("a", 1), ("b", 1), ("d", 7)], [("B", 1), ("b", 1), ("z", 1)]):
            self.assertRaises(NoSign, length_by, OF_POINT_5, counts)
        self.assertRaises(NoSign, length_by, [("a", 1), ("c", 1)], [("a", 1), ("b", 1), ("c", 1)])
        self.assertRaises(NoSign, length_by, ONE_SIGN, [("b", 1)])
        self.assertRaises(NoSign, length_by, [], [("a", 1)])

    def test_a_kind(self):
        self.assertIs(type(length_by([], [])), int)
        self.assertIs(type(length_by(OF_POINT_5, [("b", 2)])), int)


class Refused(unittest.TestCase):
    """Point 13."""

    def test_no_books_whatever_else_is_so(self):
        for book in NO_BOOKS:
            # Signs that are in no list here, signs that are in some, and none.
            for text in ("", "a", "ab", "?", "a?", "?a"):
                self.assertRaises(NoBook, told, book, text)
                self.assertRaises(NoBook, length_by, book, counts_of(text))
            for flashes in ("", ".", "-", "..", "x", ".x", "x.", ".-.-."):
                self.assertRaises(NoBook, heard, book, flashes)

    def test_small_lists(self):
        for book in small_lists():
            if not is_small_book(book):
                self.assertRaises(NoBook, told, book, "")
                self.assertRaises(NoBook, heard, book, "")
                self.assertRaises(NoBook, length_by, book, [])

    def test_refusals_are_lamp_errors_and_value_errors_and_none_is_another(self):
        refusals = (NoBook, NoSign, NoFlash, NoText)
        asked = (
            (NoBook, told, [("a", 2)], "a"),
            (NoBook, heard, [("a", 2)], ".."),
            (NoBook, length_by, [("a", 2)], [("a", 1)]),
            (NoSign, told, OF_POINT_5, "d"),
            (NoSign, length_by, OF_POINT_5, [("d", 1)]),
            (NoFlash, heard, OF_POINT_5, "-"),
            (NoFlash, heard, OF_POINT_5, "x"),
        )
        for wanted, asking, book, other in asked:
            with self.assertRaises(ValueError) as caught:
                asking(book, other)
            self.assertIsInstance(caught.exception, LampError)
            for refusal in refusals:
                self.assertEqual(isinstance(caught.exception, refusal), refusal is wanted)


class Unchanged(unittest.TestCase):
    """Point 1."""

    def test_books_and_counts(self):
        for book in [*ALL_KINDS, *NO_BOOKS]:
            for text, flashes in (("", ""), ("ab", ".-"), ("?", "x")):
                handed = list(book)
                counts = counts_of(text)
                for asking, other in ((told, text), (heard, flashes), (length_by, counts)):
                    try:
                        asking(handed, other)
                    except LampError:
                        pass
                    self.assertEqual(handed, book)
                self.assertEqual(counts, counts_of(text))


if __name__ == "__main__":
    unittest.main()
