import unittest

from books import SIGNS
from lampcode.counting import counts_of


class Counts(unittest.TestCase):
    """Point 2."""

    def test_the_empty_text(self):
        self.assertEqual(counts_of(""), [])

    def test_one_sign(self):
        self.assertEqual(counts_of("a"), [("a", 1)])
        self.assertEqual(counts_of(" "), [(" ", 1)])

    def test_a_sign_many_times(self):
        self.assertEqual(counts_of("z" * 900), [("z", 900)])
        self.assertEqual(counts_of("~" * 5000), [("~", 5000)])

    def test_signs_apart_from_each_other_are_counted_together(self):
        self.assertEqual(counts_of("abaca"), [("a", 3), ("b", 1), ("c", 1)])

    def test_signs_in_the_order_of_texts_not_of_coming(self):
        self.assertEqual(counts_of("cbabcc"), [("a", 1), ("b", 2), ("c", 3)])

    def test_blank_capitals_figures_and_tilde(self):
        self.assertEqual(
            counts_of("~aZ 9_A0z ~"),
            [(" ", 2), ("0", 1), ("9", 1), ("A", 1), ("Z", 1), ("_", 1), ("a", 1), ("z", 1), ("~", 2)],
        )

    def test_capitals_and_small_letters_are_apart(self):
        self.assertEqual(counts_of("aAa"), [("A", 1), ("a", 2)])

    def test_every_sign_of_a_text(self):
        text = "".join(reversed(SIGNS)) + SIGNS
        self.assertEqual(counts_of(text), [(sign, 2) for sign in SIGNS])

    def test_kinds(self):
        counts = counts_of("lamp")
        self.assertIs(type(counts), list)
        for pair in counts:
            self.assertIs(type(pair), tuple)
            self.assertEqual([type(part) for part in pair], [str, int])


if __name__ == "__main__":
    unittest.main()
