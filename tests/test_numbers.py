import itertools
import unittest

from lampcode.errors import LampError, NoBook, NoFlash, NoNotes, NoSign, NoText
from lampcode.numbers import flashes_of, number_of

LONG_ROW = "".join("-" if place * place % 7 in (1, 2) else "." for place in range(700))


class NumberOf(unittest.TestCase):
    """Point 16."""

    def test_the_empty_row(self):
        self.assertEqual(number_of(""), 1)

    def test_one_flash(self):
        self.assertEqual(number_of("."), 2)
        self.assertEqual(number_of("-"), 3)

    def test_two_flashes(self):
        self.assertEqual([number_of(row) for row in ("..", ".-", "-.", "--")], [4, 5, 6, 7])

    def test_rows_that_begin_with_short_flashes(self):
        self.assertEqual(number_of("...-"), 17)
        self.assertEqual(number_of("....."), 32)
        self.assertEqual(number_of("." * 300 + "-"), 2 ** 301 + 1)

    def test_a_flash_put_behind_a_row(self):
        for size in range(9):
            for row in itertools.product(".-", repeat=size):
                flashes = "".join(row)
                self.assertEqual(number_of(flashes + "."), 2 * number_of(flashes))
                self.assertEqual(number_of(flashes + "-"), 2 * number_of(flashes) + 1)

    def test_a_row_of_several_hundred_flashes(self):
        figures = "1" + LONG_ROW.replace(".", "0").replace("-", "1")
        self.assertEqual(number_of(LONG_ROW), int(figures, 2))

    def test_a_row_beyond_twenty_thousand_flashes(self):
        self.assertTrue(number_of("." * 20001) == 1 << 20001)
        self.assertTrue(number_of("-" * 20001) == (1 << 20002) - 1)

    def test_another_sign(self):
        for flashes in ("x", " ", "0", "1", "_", "+", "..x", "x..", ".x.", ".-\n", "\n", ".,", "--_-", ". -", "\u2212"):
            self.assertRaises(NoFlash, number_of, flashes)
        for place in range(0, len(LONG_ROW), 50):
            self.assertRaises(NoFlash, number_of, LONG_ROW[:place] + "a" + LONG_ROW[place:])

    def test_a_kind(self):
        for flashes in ("", ".", "-."):
            self.assertIs(type(number_of(flashes)), int)


class FlashesOf(unittest.TestCase):
    """Point 16."""

    def test_the_first_numbers(self):
        self.assertEqual(
            [flashes_of(number) for number in range(1, 9)],
            ["", ".", "-", "..", ".-", "-.", "--", "..."],
        )

    def test_each_number_has_a_row_whose_number_it_is(self):
        for number in range(1, 5000):
            flashes = flashes_of(number)
            self.assertLessEqual(set(flashes), set(".-"))
            self.assertEqual(number_of(flashes), number)

    def test_no_two_numbers_have_one_row(self):
        self.assertEqual(len({flashes_of(number) for number in range(1, 5000)}), 4999)

    def test_each_row_is_that_of_its_number(self):
        for size in range(11):
            for row in itertools.product(".-", repeat=size):
                flashes = "".join(row)
                self.assertEqual(flashes_of(number_of(flashes)), flashes)
        self.assertEqual(flashes_of(number_of(LONG_ROW)), LONG_ROW)

    def test_numbers_of_many_figures(self):
        for number in (10 ** 80 + 7, 10 ** 899, 3 ** 1000, 2 ** 400, 2 ** 400 - 1, 2 ** 400 + 1):
            self.assertEqual(number_of(flashes_of(number)), number)

    def test_numbers_of_long_rows(self):
        self.assertTrue(flashes_of(1 << 20001) == "." * 20001)
        self.assertTrue(flashes_of((1 << 20002) - 1) == "-" * 20001)

    def test_numbers_below_one(self):
        for number in (0, -1, -2, -3, -900, -(10 ** 60)):
            self.assertRaises(NoFlash, flashes_of, number)

    def test_a_kind(self):
        for number in (1, 2, 900):
            self.assertIs(type(flashes_of(number)), str)


class Refused(unittest.TestCase):
    def test_the_refusal_is_a_lamp_error_and_a_value_error_and_no_other(self):
        for asking, value in ((number_of, "x"), (flashes_of, 0)):
            with self.assertRaises(ValueError) as caught:
                asking(value)
            self.assertIsInstance(caught.exception, LampError)
            self.assertNotIsInstance(caught.exception, (NoBook, NoSign, NoText, NoNotes))


if __name__ == "__main__":
    unittest.main()
