import random
import unittest
from copy import deepcopy
from math import lcm

from helpers import rewritten, some_words, words
from unendtold.words import is_same, letter_at, shortest, side_by_side, spans


def unrolled(word, many):
    """The first letters of a word, laid out one after another."""
    row = list(word[0])
    while len(row) < many:
        row += word[1]
    return row[:many]


class LetterAt(unittest.TestCase):
    """Point 1."""

    def test_in_the_beginning_at_its_end_and_rounds_later(self):
        word = ([5, 6, 7], [1, 2])
        self.assertEqual([letter_at(word, k) for k in range(8)], [5, 6, 7, 1, 2, 1, 2, 1])
        self.assertEqual(letter_at(word, 1003), 1)
        self.assertEqual(letter_at(word, 1000000), 2)

    def test_empty_beginning(self):
        word = ([], [3, 1, 2])
        self.assertEqual([letter_at(word, k) for k in range(7)], [3, 1, 2, 3, 1, 2, 3])
        self.assertEqual(letter_at(([], [63]), 10 ** 12), 63)

    def test_laid_out(self):
        for word in words(2, 3, 3):
            self.assertEqual([letter_at(word, k) for k in range(12)], unrolled(word, 12))


class Spans(unittest.TestCase):
    """Point 2: the lengths that words have together."""

    def test_no_word(self):
        self.assertEqual(spans([]), (0, 1))

    def test_one_word(self):
        self.assertEqual(spans([([], [0])]), (0, 1))
        self.assertEqual(spans([([1, 2, 3], [0, 0])]), (3, 2))

    def test_several_words(self):
        self.assertEqual(spans([([1], [0, 1]), ([], [0, 1, 2])]), (1, 6))
        self.assertEqual(spans([([], [0] * 4), ([1] * 5, [0] * 6), ([1], [0])]), (5, 12))
        self.assertEqual(spans([([], [0] * 4), ([], [0] * 6), ([0, 0], [0] * 9)]), (2, 36))
        self.assertEqual(spans([([], [0, 1]), ([], [1, 0])]), (0, 2))

    def test_kind(self):
        self.assertIsInstance(spans([]), tuple)
        self.assertIsInstance(spans([([], [0]), ([], [0])]), tuple)


class SideBySide(unittest.TestCase):
    """Point 2: words side by side."""

    def test_example_of_the_document(self):
        self.assertEqual(side_by_side([([0], [1]), ([], [1, 0])], 2), ([1], [2, 3]))

    def test_one_word_is_itself(self):
        self.assertEqual(side_by_side([([1, 0], [2, 1])], 3), ([1, 0], [2, 1]))

    def test_first_word_has_the_highest_digit(self):
        self.assertEqual(side_by_side([([], [3]), ([], [1]), ([], [2])], 4), ([], [3 * 16 + 4 + 2]))
        self.assertEqual(side_by_side([([], [1]), ([], [2])], 10), ([], [12]))

    def test_lengths_are_those_of_spans(self):
        rng = random.Random(1)
        for many in (1, 2, 3):
            for _ in range(30):
                rows = some_words(rng, 3, many)
                joined = side_by_side(rows, 3)
                self.assertEqual((len(joined[0]), len(joined[1])), spans(rows))
                for k in range(len(joined[0]) + 2 * len(joined[1])):
                    digits = 0
                    for row in rows:
                        digits = digits * 3 + letter_at(row, k)
                    self.assertEqual(letter_at(joined, k), digits)

    def test_kinds(self):
        joined = side_by_side([([], [0])], 2)
        self.assertIsInstance(joined, tuple)
        self.assertEqual([isinstance(part, list) for part in joined], [True, True])

    def test_one_base_for_all(self):
        self.assertEqual(side_by_side([([], [0]), ([0, 0], [0])], 1), ([0, 0], [0]))


class IsSame(unittest.TestCase):
    """Point 1: an endless word may be written in several ways."""

    def test_written_in_several_ways(self):
        ways = [([], [0, 1]), ([0], [1, 0]), ([0, 1, 0], [1, 0, 1, 0]), ([0, 1], [0, 1])]
        for one in ways:
            for two in ways:
                self.assertIs(is_same(one, two), True)

    def test_rewritten(self):
        rng = random.Random(2)
        for word in words(2, 2, 3):
            self.assertTrue(is_same(word, rewritten(rng, word)))

    def test_different(self):
        self.assertIs(is_same(([], [0]), ([], [1])), False)
        self.assertFalse(is_same(([], [0, 1]), ([], [1, 0])))
        self.assertFalse(is_same(([0], [1]), ([], [1])))
        self.assertFalse(is_same(([], [1]), ([1, 1, 0], [1])))
        self.assertFalse(is_same(([1, 1, 0], [1]), ([], [1])))

    def test_different_late(self):
        long_round = [0] * 59 + [1]
        self.assertFalse(is_same(([], [0]), ([], long_round)))
        self.assertFalse(is_same(([0] * 60, long_round), ([], [0])))
        self.assertFalse(is_same(([0] * 60, [1, 0]), ([0] * 60, [1, 0, 1])))
        for one, two in ((([0] * 60, [1]), ([], [0])), (([0] * 20, [0]), ([0] * 60, [1]))):
            self.assertFalse(is_same(one, two))
            self.assertFalse(is_same(two, one))
        # These agree at p + q - 2 moments for rounds of p = 3 and q = 5 letters.
        self.assertFalse(is_same(([], [0, 1, 0]), ([], [0, 1, 0, 0, 1])))
        self.assertFalse(is_same(([0, 1, 0, 0, 1, 0], [0]), ([], [0, 1, 0])))

    def test_against_all_letters(self):
        known = words(2, 2, 5)[::3]
        for one in known:
            for two in known:
                end = 2 + lcm(len(one[1]), len(two[1]))
                self.assertEqual(is_same(one, two), unrolled(one, end) == unrolled(two, end))

    def test_long_rounds(self):
        one = ([], [0] * 40009)
        two = ([], [0] * 40013)
        self.assertTrue(is_same(one, two))
        two[1][-1] = 1
        self.assertFalse(is_same(one, two))


class Shortest(unittest.TestCase):
    """The same word, written as short as can be."""

    def test_by_hand(self):
        for word, told in [(([], [0]), ([], [0])), (([0, 0], [0, 0, 0]), ([], [0])),
                           (([1, 0], [1, 0]), ([], [1, 0])), (([0], [1, 0]), ([], [0, 1])),
                           (([0, 1, 1], [0, 1, 0, 1]), ([0, 1], [1, 0])),
                           (([2, 2], [1, 2, 0, 2]), ([2], [2, 1, 2, 0])),
                           (([], [0, 1, 0]), ([], [0, 1, 0])), (([1], [0, 0, 1, 0, 0, 1]), ([], [1, 0, 0]))]:
            self.assertEqual(shortest(word), told)

    def test_no_other_writing_is_shorter(self):
        known = words(2, 3, 4)
        for word in known:
            found = shortest(word)
            same = [other for other in known if unrolled(other, 24) == unrolled(word, 24)]
            self.assertIn(found, same)
            self.assertEqual(len(found[0]), min(len(other[0]) for other in same))
            self.assertEqual(len(found[1]), min(len(other[1]) for other in same))

    def test_rewritten(self):
        rng = random.Random(81)
        for word in some_words(rng, 2, 200):
            self.assertEqual(shortest(rewritten(rng, word)), shortest(word))
            self.assertTrue(is_same(shortest(word), word))


class Arguments(unittest.TestCase):
    def test_nothing_is_modified(self):
        rows = [([0, 1], [1, 0, 1]), ([], [1, 1])]
        before = deepcopy(rows)
        letter_at(rows[0], 9)
        spans(rows)
        side_by_side(rows, 2)
        is_same(rows[0], rows[1])
        shortest(rows[0]), shortest(rows[1])
        self.assertEqual(rows, before)

    def test_returned_lists_are_new(self):
        rows = [([0, 1], [1, 0, 1])]
        joined = side_by_side(rows, 2)
        joined[0].append(9)
        joined[1].append(9)
        self.assertEqual(rows, [([0, 1], [1, 0, 1])])
        self.assertEqual(side_by_side(rows, 2), ([0, 1], [1, 0, 1]))
        for word in [([1], [0]), ([], [0, 0]), ([0], [1, 0])]:
            before = deepcopy(word)
            found = shortest(word)
            found[0].append(9)
            found[1].append(9)
            self.assertEqual(word, before)


if __name__ == "__main__":
    unittest.main()
