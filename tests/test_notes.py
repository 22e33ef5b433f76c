import unittest

from books import NO_BOOKS, OF_POINT_5, SIGNS, chain, is_small_book, small_lists, some_books
from lampcode.errors import LampError, NoBook, NoFlash, NoNotes, NoSign, NoText
from lampcode.notes import read_notes, shown

NOTES_OF_POINT_5 = ["1 a", "2 b", "2 c"]

# Each stands in the place of "2 b" among the notes of point 5, and of "1 a" alone where the length is 1.
WRONG_NOTES = (
    "",
    # Without a sign.
    "2",
    "2 ",
    # Without a blank.
    "2b",
    "b",
    "bb",
    # Without a length.
    " ",
    "  ",
    " b",
    "  b",
    "b 2",
    "b b",
    # Something ahead of the figures.
    "02 b",
    "002 b",
    "+2 b",
    "-2 b",
    " 2 b",
    "\t2 b",
    "\n2 b",
    "0 2 b",
    # Something among the figures, behind them or in their place.
    "_ b",
    "2_ b",
    "_2 b",
    "0_2 b",
    "1_0 b",
    "2. b",
    "2.0 b",
    "0x2 b",
    "2e0 b",
    "x b",
    "0 b",
    "00 b",
    # Something else in the place of the blank.
    "2_b",
    "2\tb",
    "2\nb",
    "2\u00a0b",
    "2-b",
    "2,b",
    # Figures that are no ASCII figures.
    "\u0662 b",
    "\uff12 b",
    "\u00b2 b",
    "\u2461 b",
    "\u0968 b",
    # More than one sign behind the blank.
    "2  b",
    "2 b ",
    "2 bb",
    "2 b\n",
    "2   ",
    "2 2 b",
    "2 b 2",
)


class Shown(unittest.TestCase):
    """Point 17."""

    def test_the_notes_of_point_5(self):
        self.assertEqual(shown(OF_POINT_5), NOTES_OF_POINT_5)

    def test_the_empty_book(self):
        self.assertEqual(shown([]), [])

    def test_one_sign(self):
        for sign in SIGNS:
            self.assertEqual(shown([(sign, 1)]), ["1 " + sign])

    def test_a_blank_with_the_length_2(self):
        self.assertEqual(shown([(" ", 2), ("0", 2), ("1", 1)]), ["2  ", "2 0", "1 1"])

    def test_lengths_of_two_figures(self):
        notes = shown(chain(SIGNS))
        self.assertEqual(notes[:3], ["1  ", "2 !", '3 "'])
        self.assertEqual(notes[8:11], ["9 )", "10 *", "11 +"])
        self.assertEqual(notes[-2:], ["93 }", "93 ~"])

    def test_no_books(self):
        for book in NO_BOOKS:
            self.assertRaises(NoBook, shown, book)

    def test_the_book_is_unchanged(self):
        for book in [*some_books(), *NO_BOOKS]:
            handed = list(book)
            try:
                shown(handed)
            except NoBook:
                pass
            self.assertEqual(handed, book)

    def test_kinds(self):
        for book in some_books():
            notes = shown(book)
            self.assertIs(type(notes), list)
            self.assertEqual([type(note) for note in notes], [str] * len(book))


class ReadNotes(unittest.TestCase):
    """Point 17."""

    def test_the_notes_of_point_5(self):
        self.assertEqual(read_notes(NOTES_OF_POINT_5), OF_POINT_5)

    def test_no_notes(self):
        self.assertEqual(read_notes([]), [])

    def test_one_sign(self):
        for sign in SIGNS:
            self.assertEqual(read_notes(["1 " + sign]), [(sign, 1)])

    def test_a_blank_with_the_length_2(self):
        self.assertEqual(read_notes(["2  ", "2 0", "1 1"]), [(" ", 2), ("0", 2), ("1", 1)])

    def test_notes_that_a_book_is_written_as_are_read_to_it(self):
        for book in some_books():
            self.assertEqual(read_notes(shown(book)), book)
        for size in range(2, len(SIGNS) + 1):
            self.assertEqual(read_notes(shown(chain(SIGNS[:size]))), chain(SIGNS[:size]))

    def test_wrong_notes_among_others(self):
        for note in WRONG_NOTES:
            self.assertRaises(NoNotes, read_notes, ["1 a", note, "2 c"])

    def test_wrong_notes_alone(self):
        for note in WRONG_NOTES:
            self.assertRaises(NoNotes, read_notes, [note])
            self.assertRaises(NoNotes, read_notes, [note.replace("2", "1").replace("b", "a")])
        for note in ("\u0661 a", "\uff11 a", "\u00b9 a", "\u2460 a"):
            self.assertRaises(NoNotes, read_notes, [note])

    def test_wrong_notes_ahead_and_behind(self):
        for note in WRONG_NOTES:
            self.assertRaises(NoNotes, read_notes, [note] + NOTES_OF_POINT_5)
            self.assertRaises(NoNotes, read_notes, NOTES_OF_POINT_5 + [note])

    def test_wrong_figures_in_lengths_of_two(self):
        book = chain(SIGNS[:13])
        notes = shown(book)
        self.assertEqual(notes[9], "10 *")
        for figures in ("1_0", "010", "+10", " 10", "10 ", "1 0", "\u0661\u0660", "1\u0660", "1O", "_10", "10_", "-10"):
            self.assertRaises(NoNotes, read_notes, notes[:9] + [figures + " *"] + notes[10:])

    def test_pairs_that_are_no_book(self):
        for book in NO_BOOKS:
            self.assertRaises(NoNotes, read_notes, [f"{length} {sign}" for sign, length in book])
        for book in small_lists():
            if not is_small_book(book):
                self.assertRaises(NoNotes, read_notes, [f"{length} {sign}" for sign, length in book])
        self.assertRaises(NoNotes, read_notes, ["1 a", "1 b", "1 c"])
        self.assertRaises(NoNotes, read_notes, ["2 a"])
        self.assertRaises(NoNotes, read_notes, ["2 c", "1 a", "2 b"])

    def test_lengths_of_many_figures(self):
        for figures in ("100", "101", "1" + "0" * 40, "1" * 5000, "0" * 5000 + "1"):
            self.assertRaises(NoNotes, read_notes, [figures + " a"])
            self.assertRaises(NoNotes, read_notes, ["1 a", figures + " b"])

    def test_the_refusal_is_a_lamp_error_and_a_value_error_and_no_other(self):
        for notes in ([""], ["2 a"], ["1 a", "1 a"], ["x a"]):
            with self.assertRaises(ValueError) as caught:
                read_notes(notes)
            self.assertIsInstance(caught.exception, LampError)
            self.assertIsInstance(caught.exception, NoNotes)
            self.assertNotIsInstance(caught.exception, (NoBook, NoSign, NoFlash, NoText))

    def test_the_notes_are_unchanged(self):
        for notes in ([], NOTES_OF_POINT_5, ["2 c", "1 a"], ["1 a", ""], ["2"]):
            handed = list(notes)
            try:
                read_notes(handed)
            except NoNotes:
                pass
            self.assertEqual(handed, notes)

    def test_kinds(self):
        for notes in ([], ["1 a"], NOTES_OF_POINT_5):
            book = read_notes(notes)
            self.assertIs(type(book), list)
            for pair in book:
                self.assertIs(type(pair), tuple)
                self.assertEqual([type(part) for part in pair], [str, int])


if __name__ == "__main__":
    unittest.main()
