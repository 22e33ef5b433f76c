import itertools
import unittest
from fractions import Fraction

from books import SIGNS
from lampcode.counting import counts_of
from lampcode.joining import book_of, joints

OF_POINT_5 = [("a", 3), ("b", 1), ("c", 1)]


def small_counts(most_signs, most_count):
    for size in range(most_signs + 1):
        for row in itertools.product(range(1, most_count + 1), repeat=size):
            yield list(zip("abcdefgh", row))


def lengths_of_codes(size):
    """All lengths up to the size that codes of which none begins another can have."""
    return [
        row
        for row in itertools.product(range(1, size + 1), repeat=size)
        if sum(Fraction(1, 2 ** length) for length in row) <= 1
    ]


def doubling_counts():
    """Each sign weighs more than all ahead of it, so that each is joined alone."""
    return [(sign, 2 ** place) for place, sign in enumerate(SIGNS)]


class Joints(unittest.TestCase):
    """Point 3."""

    def replay(self, counts):
        weights = {sign: count for sign, count in counts}
        for joint in joints(counts):
            ahead = sorted(weights, key=lambda signs: (weights[signs], min(signs)))
            self.assertEqual(joint, tuple(ahead[:2]), counts)
            both = "".join(sorted(joint[0] + joint[1]))
            weights[both] = weights.pop(joint[0]) + weights.pop(joint[1])
        self.assertLessEqual(len(weights), 1)

    def test_the_joints_of_point_5(self):
        self.assertEqual(joints(OF_POINT_5), [("b", "c"), ("bc", "a")])

    def test_no_counts(self):
        self.assertEqual(joints([]), [])

    def test_one_sign(self):
        self.assertEqual(joints([("a", 1)]), [])
        self.assertEqual(joints([("a", 10 ** 30)]), [])

    def test_two_signs(self):
        self.assertEqual(joints([("a", 1), ("b", 1)]), [("a", "b")])
        self.assertEqual(joints([("a", 2), ("b", 1)]), [("b", "a")])

    def test_equal_weights_go_by_the_least_sign(self):
        self.assertEqual(
            joints([("a", 1), ("b", 1), ("c", 1), ("d", 1)]),
            [("a", "b"), ("c", "d"), ("ab", "cd")],
        )
        self.assertEqual(joints([("a", 1), ("b", 1), ("c", 2)]), [("a", "b"), ("ab", "c")])
        self.assertEqual(joints([("a", 2), ("b", 1), ("c", 1)]), [("b", "c"), ("a", "bc")])

    def test_the_least_sign_decides_and_not_the_one_joined_first(self):
        # c goes ahead of a into the group, but a is its least sign and puts it ahead of b.
        self.assertEqual(
            joints([("a", 2), ("b", 3), ("c", 1)]),
            [("c", "a"), ("ac", "b")],
        )

    def test_the_order_of_texts_and_not_of_letters(self):
        self.assertEqual(joints([("Z", 1), ("a", 1), ("~", 1)]), [("Z", "a"), ("~", "Za")])
        self.assertEqual(joints([(" ", 1), ("0", 1)]), [(" ", "0")])

    def test_a_group_joined_out_of_order_is_told_in_order(self):
        self.assertEqual(
            joints([("a", 3), ("b", 1), ("c", 9), ("d", 1)]),
            [("b", "d"), ("bd", "a"), ("abd", "c")],
        )

    def test_counts_of_many_figures(self):
        big = 10 ** 60
        self.assertEqual(
            joints([("a", big + 1), ("b", big), ("c", 2 * big)]),
            [("b", "a"), ("c", "ab")],
        )
        self.assertEqual(
            joints([("a", big), ("b", big), ("c", 2 * big)]),
            [("a", "b"), ("ab", "c")],
        )

    def test_each_joint_takes_the_first_two_groups(self):
        for counts in small_counts(5, 4):
            self.replay(counts)

    def test_texts_with_many_signs(self):
        self.replay([(sign, 1) for sign in SIGNS])
        self.replay([(sign, 1 + place * place % 17) for place, sign in enumerate(SIGNS)])
        self.replay(doubling_counts())

    def test_there_is_one_joint_less_than_signs(self):
        for counts in small_counts(5, 3):
            self.assertEqual(len(joints(counts)), max(len(counts) - 1, 0))

    def test_the_counts_are_unchanged(self):
        for counts in ([], [("a", 4)], [("a", 3), ("b", 1), ("c", 1)], [("a", 9), ("b", 8), ("c", 7)]):
            before = list(counts)
            joints(counts)
            self.assertEqual(counts, before)

    def test_kinds(self):
        made = joints(OF_POINT_5)
        self.assertIs(type(made), list)
        for joint in made:
            self.assertIs(type(joint), tuple)
            self.assertEqual([type(part) for part in joint], [str, str])


class Books(unittest.TestCase):
    """Points 4 and 5."""

    def test_the_book_of_point_5(self):
        self.assertEqual(book_of(OF_POINT_5), [("a", 1), ("b", 2), ("c", 2)])

    def test_no_counts(self):
        self.assertEqual(book_of([]), [])

    def test_one_sign_has_the_length_1(self):
        self.assertEqual(book_of([("a", 1)]), [("a", 1)])
        self.assertEqual(book_of([("~", 900)]), [("~", 1)])

    def test_two_signs(self):
        self.assertEqual(book_of([("a", 1), ("b", 800)]), [("a", 1), ("b", 1)])

    def test_the_order_is_that_of_the_counts(self):
        self.assertEqual(
            book_of([(" ", 1), ("A", 2), ("a", 4), ("~", 8)]),
            [(" ", 3), ("A", 3), ("a", 2), ("~", 1)],
        )

    def test_equal_weights(self):
        # The group of a and b goes ahead of c and d, which weigh the same: it is joined with c, not c with d.
        self.assertEqual(
            book_of([("a", 1), ("b", 1), ("c", 2), ("d", 2)]),
            [("a", 3), ("b", 3), ("c", 2), ("d", 1)],
        )
        # Here c and d, which are lightest, make a group behind a and b.
        self.assertEqual(
            book_of([("a", 2), ("b", 2), ("c", 1), ("d", 1)]),
            [("a", 2), ("b", 2), ("c", 2), ("d", 2)],
        )
        self.assertEqual(
            book_of([("a", 2), ("b", 1), ("c", 1), ("d", 3)]),
            [("a", 2), ("b", 3), ("c", 3), ("d", 1)],
        )

    def test_a_length_is_how_many_joints_a_sign_takes_part_in(self):
        for counts in small_counts(5, 4):
            if len(counts) == 1:
                continue
            taken = "".join(first + second for first, second in joints(counts))
            self.assertEqual(book_of(counts), [(sign, taken.count(sign)) for sign, count in counts])

    def test_a_long_chain_by_counts_of_many_figures(self):
        lengths = [length for sign, length in book_of(doubling_counts())]
        last = len(SIGNS) - 1
        self.assertEqual(lengths, [last] + list(range(last, 0, -1)))

    def test_the_book_of_a_text(self):
        # c and d; b and cd; r and bcd; a and bcdr.
        self.assertEqual(
            book_of(counts_of("abracadabra")),
            [("a", 1), ("b", 3), ("c", 4), ("d", 4), ("r", 2)],
        )

    def test_the_counts_are_unchanged(self):
        for counts in ([], [("a", 4)], [("a", 3), ("b", 1), ("c", 1)], [("a", 9), ("b", 8), ("c", 7)]):
            before = list(counts)
            book_of(counts)
            self.assertEqual(counts, before)

    def test_kinds(self):
        for counts in ([("a", 4)], OF_POINT_5):
            book = book_of(counts)
            self.assertIs(type(book), list)
            for pair in book:
                self.assertIs(type(pair), tuple)
                self.assertEqual([type(part) for part in pair], [str, int])


class Fewest(unittest.TestCase):
    """Point 6."""

    def test_no_other_lengths_need_fewer_flashes(self):
        rows_of = {size: lengths_of_codes(size) for size in range(2, 6)}
        for counts in small_counts(5, 4):
            if len(counts) < 2:
                continue
            weights = [count for sign, count in counts]
            lengths = tuple(length for sign, length in book_of(counts))
            rows = rows_of[len(counts)]
            self.assertIn(lengths, rows)
            needed = [sum(map(int.__mul__, weights, row)) for row in rows]
            self.assertEqual(sum(map(int.__mul__, weights, lengths)), min(needed), counts)


if __name__ == "__main__":
    unittest.main()
