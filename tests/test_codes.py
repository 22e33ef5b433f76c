import itertools
import unittest
from fractions import Fraction

from books import NO_BOOKS, OF_POINT_5, SIGNS, chain, is_small_book, small_lists, some_books
from lampcode.codes import codes, is_book
from lampcode.counting import counts_of
from lampcode.errors import LampError, NoBook
from lampcode.joining import book_of


class IsBook(unittest.TestCase):
    """Point 7."""

    def test_the_empty_list(self):
        self.assertIs(is_book([]), True)

    def test_one_sign_with_the_length_1(self):
        for sign in SIGNS:
            self.assertIs(is_book([(sign, 1)]), True)

    def test_the_book_of_point_5(self):
        self.assertIs(is_book(OF_POINT_5), True)

    def test_lengths_in_any_order(self):
        self.assertIs(is_book([("a", 2), ("b", 1), ("c", 2)]), True)
        self.assertIs(is_book([("a", 3), ("b", 3), ("c", 2), ("d", 1)]), True)

    def test_the_order_of_texts(self):
        self.assertIs(is_book([(" ", 2), ("0", 2), ("Z", 2), ("a", 3), ("~", 3)]), True)

    def test_a_long_chain(self):
        for size in range(2, len(SIGNS) + 1):
            self.assertIs(is_book(chain(SIGNS[:size])), True)

    def test_a_long_chain_with_one_link_off(self):
        book = chain(SIGNS)
        for place, (sign, length) in enumerate(book):
            for other in (length - 1, length + 1):
                changed = book[:place] + [(sign, other)] + book[place + 1:]
                self.assertIs(is_book(changed), False)

    def test_all_signs_at_nearly_the_same_length(self):
        self.assertIs(is_book([(sign, 6) for sign in SIGNS[:64]]), True)
        self.assertIs(is_book([(sign, 6) for sign in SIGNS[:63]]), False)
        self.assertIs(is_book([(sign, 6) for sign in SIGNS[:65]]), False)

    def test_a_book_of_counts(self):
        for text in ("", "a", "abaca", "abracadabra", SIGNS, SIGNS + "lamp" * 90):
            self.assertIs(is_book(book_of(counts_of(text))), True)

    def test_no_books(self):
        for book in NO_BOOKS:
            self.assertIs(is_book(book), False, book)

    def test_all_small_lists(self):
        for book in small_lists():
            self.assertIs(is_book(book), is_small_book(book), book)

    def test_only_one_order_of_signs(self):
        pairs = [("A", 1), ("a", 2), ("b", 3), ("~", 3)]
        for book in itertools.permutations(pairs):
            self.assertIs(is_book(list(book)), list(book) == pairs)

    def test_the_list_is_unchanged(self):
        for book in [[], [("a", 1)], OF_POINT_5, [("a", 2), ("b", 1), ("c", 2)], *NO_BOOKS]:
            handed = list(book)
            is_book(handed)
            self.assertEqual(handed, book)


class Codes(unittest.TestCase):
    """Points 8 and 9."""

    def test_the_codes_of_point_5(self):
        self.assertEqual(codes(OF_POINT_5), [("a", "."), ("b", "-."), ("c", "--")])

    def test_one_sign(self):
        self.assertEqual(codes([("a", 1)]), [("a", ".")])
        self.assertEqual(codes([(" ", 1)]), [(" ", ".")])

    def test_the_empty_book(self):
        self.assertEqual(codes([]), [])

    def test_same_lengths_in_the_order_of_signs(self):
        self.assertEqual(
            codes([(" ", 2), ("Z", 2), ("a", 2), ("~", 2)]),
            [(" ", ".."), ("Z", ".-"), ("a", "-."), ("~", "--")],
        )

    def test_codes_stand_in_the_order_of_the_book(self):
        self.assertEqual(
            codes([("a", 3), ("b", 1), ("c", 3), ("d", 2)]),
            [("a", "--."), ("b", "."), ("c", "---"), ("d", "-.")],
        )

    def test_flashes_behind_the_last_short_one_become_short(self):
        self.assertEqual(
            codes([("a", 2), ("b", 2), ("c", 3), ("d", 3), ("e", 3), ("f", 3)]),
            [("a", ".."), ("b", ".-"), ("c", "-.."), ("d", "-.-"), ("e", "--."), ("f", "---")],
        )

    def test_lengths_may_grow_by_more_than_one(self):
        self.assertEqual(
            codes([("a", 1), ("b", 3), ("c", 3), ("d", 3), ("e", 3)]),
            [("a", "."), ("b", "-.."), ("c", "-.-"), ("d", "--."), ("e", "---")],
        )

    def test_a_long_chain(self):
        told = codes(chain(SIGNS))
        last = len(SIGNS) - 1
        wanted = ["-" * place + "." for place in range(last)] + ["-" * last]
        self.assertEqual(told, list(zip(SIGNS, wanted)))

    def test_each_code_is_what_the_parts_ahead_of_it_add_up_to(self):
        for book in some_books():
            code_of = dict(codes(book))
            ahead = 0
            for sign, length in sorted(book, key=lambda pair: pair[1]):
                place = ahead * 2 ** length
                self.assertEqual(place, int(place))
                figures = bin(int(place))[2:].zfill(length)
                self.assertEqual(code_of[sign], figures.replace("0", ".").replace("1", "-"), book)
                ahead += Fraction(1, 2 ** length)

    def test_a_code_has_as_many_flashes_as_its_length(self):
        for book in some_books():
            self.assertEqual([(sign, len(code)) for sign, code in codes(book)], book)

    def test_no_code_begins_another(self):
        for book in some_books():
            for one, other in itertools.permutations([code for sign, code in codes(book)], 2):
                self.assertFalse(other.startswith(one), book)

    def test_every_long_row_begins_with_a_code(self):
        for book in [[("a", 1), ("b", 1)], OF_POINT_5, chain("abcdefg"), [(sign, 3) for sign in "abcdefgh"]]:
            told = [code for sign, code in codes(book)]
            for row in itertools.product(".-", repeat=max(map(len, told))):
                beginning = [code for code in told if "".join(row).startswith(code)]
                self.assertEqual(len(beginning), 1, book)

    def test_the_book_is_unchanged(self):
        for book in some_books():
            handed = list(book)
            codes(handed)
            self.assertEqual(handed, book)

    def test_kinds(self):
        told = codes(OF_POINT_5)
        self.assertIs(type(told), list)
        for pair in told:
            self.assertIs(type(pair), tuple)
            self.assertEqual([type(part) for part in pair], [str, str])


class Refused(unittest.TestCase):
    """Points 7 and 13."""

    def test_no_books_are_refused(self):
        for book in NO_BOOKS:
            with self.assertRaises(NoBook, msg=book):
                codes(book)

    def test_small_lists_are_refused_where_they_are_no_books(self):
        for book in small_lists():
            if is_small_book(book):
                codes(book)
            else:
                self.assertRaises(NoBook, codes, book)

    def test_the_refusal_is_a_lamp_error_and_a_value_error(self):
        for kind in (LampError, ValueError):
            with self.assertRaises(kind):
                codes([("a", 2)])

    def test_a_refused_list_is_unchanged(self):
        for book in NO_BOOKS:
            handed = list(book)
            self.assertRaises(NoBook, codes, handed)
            self.assertEqual(handed, book)


if __name__ == "__main__":
    unittest.main()
