import unittest

from lampcode.errors import LampError, NoBook, NoFlash, NoNotes, NoSign, NoText


class Refusals(unittest.TestCase):
    def test_any_refusal_stands_under_value_error(self):
        self.assertEqual(LampError.__bases__, (ValueError,))

    def test_each_refusal_stands_under_lamp_error(self):
        for refusal in (NoBook, NoSign, NoFlash, NoText, NoNotes):
            self.assertEqual(refusal.__bases__, (LampError,))

    def test_refusals_are_told_apart(self):
        for refusal in (NoBook, NoSign, NoFlash, NoText, NoNotes):
            for other in (NoBook, NoSign, NoFlash, NoText, NoNotes):
                self.assertEqual(issubclass(refusal, other), refusal is other)

    def test_each_refusal_takes_free_words(self):
        for refusal in (LampError, NoBook, NoSign, NoFlash, NoText, NoNotes):
            with self.assertRaises(ValueError):
                raise refusal("some words")


if __name__ == "__main__":
    unittest.main()
