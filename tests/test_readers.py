import random
import unittest
from copy import deepcopy

from helpers import (AT_LAST, FIRST, OFTEN, cyclic, linked, rewritten, rows, small_cases,
                     some_words, with_more_values, words)
from unendtold.readers import accepts, fault, pair_of, value

LEFT = ((0, 0), (1, 1))


def changed(table, x, y, z):
    """A table with one other member."""
    found = [list(row) for row in table]
    found[x][y] = z
    return tuple(tuple(row) for row in found)


def plain_fault(count, reader):
    """Points 3 and 4 as they are written, for tables of values."""
    letters, mul, accepted = reader
    size = range(len(mul))
    for x in size:
        for y in size:
            for z in size:
                if mul[mul[x][y]][z] != mul[x][mul[y][z]]:
                    return ("order", x, y, z)
    for s in size:
        for x in size:
            for y in size:
                f = mul[x][y]
                g = mul[y][x]
                if mul[s][f] == s and mul[f][f] == f and mul[g][g] == g:
                    if ((s, f) in accepted) != ((mul[s][x], g) in accepted):
                        return ("turn", s, x, y)
    return None


class Fitting(unittest.TestCase):
    """Points 3 and 4: readers that fit."""

    def test_small_ones(self):
        for reader in (OFTEN, AT_LAST, FIRST):
            self.assertIsNone(fault(2, reader))
        self.assertIsNone(fault(1, ((0,), ((0,),), ())))
        self.assertIsNone(fault(1, ((0,), ((0,),), ((0, 0),))))

    def test_of_automata(self):
        for _, reader in small_cases(11, 30):
            self.assertIsNone(fault(2, reader))

    def test_values_that_no_word_has(self):
        rng = random.Random(12)
        for _, reader in small_cases(13, 20):
            self.assertIsNone(fault(2, with_more_values(rng, reader)))

    def test_300_values(self):
        self.assertIsNone(fault(1, cyclic(300, [1])))
        self.assertIsNone(fault(1, cyclic(300, [299], True)))

    def test_64_letters(self):
        self.assertIsNone(fault(64, ((0,) * 64, ((0,),), ())))


class Faults(unittest.TestCase):
    """Point 4: each of the faults, and the first one where there are two."""

    def test_values(self):
        self.assertEqual(fault(1, ((0,), (), ())), ("values",))
        self.assertEqual(fault(1, cyclic(301, [1])), ("values",))

    def test_letters(self):
        self.assertEqual(fault(1, OFTEN), ("letters",))
        self.assertEqual(fault(3, OFTEN), ("letters",))
        self.assertEqual(fault(2, ((0, 2),) + OFTEN[1:]), ("letters",))
        self.assertEqual(fault(2, ((-1, 0),) + OFTEN[1:]), ("letters",))
        self.assertEqual(fault(1, ((),) + OFTEN[1:]), ("letters",))

    def test_mul(self):
        letters, mul, accepted = OFTEN
        for x, table in ((0, ((0,), (1, 1))), (0, ((0, 1, 1), (1, 1))), (0, ((), (1, 1))),
                         (1, ((0, 1), (1,))), (1, ((0, 1), (1, 2))), (1, ((0, 1), (-1, 1))),
                         (0, ((2, 1), (1, 1))), (0, ((0, 5), (7, 1))), (0, ((0,), (1,)))):
            with self.subTest(table=table):
                self.assertEqual(fault(2, (letters, table, accepted)), ("mul", x))

    def test_accepted(self):
        letters, mul, _ = OFTEN
        for pairs in (((1, 1), (1, 1)), ((1, 1), (1, 0)), ((0, 1),), ((2, 2),), ((1, 2),),
                      ((-1, 1),), ((1, -1),), ((1, 1, 1),), ((1,),), ((),), ((0, 0), (0, 1), (1, 1))):
            with self.subTest(pairs=pairs):
                self.assertEqual(fault(2, (letters, mul, pairs)), ("accepted",))

    def test_accepted_second_value_has_to_be_settled(self):
        # 1 joined with 1 is 0; 1 leaves 2 as it is, but changes by itself.
        table = ((0, 1, 2), (1, 0, 2), (2, 2, 2))
        self.assertEqual(fault(1, ((1,), table, ((2, 1),))), ("accepted",))
        self.assertIsNone(fault(1, ((1,), table, ((2, 0), (2, 2)))))

    def test_order(self):
        letters = (0, 1)
        # 0 0 is 1, 0 1 is 0, 1 0 is 1, 1 1 is 1: (0 0) 0 is 1, and 0 (0 0) is 0.
        self.assertEqual(fault(2, (letters, ((1, 0), (1, 1)), ())), ("order", 0, 0, 0))
        self.assertEqual(fault(2, (letters, ((0, 0), (1, 0)), ())), ("order", 1, 0, 1))

    def test_order_lowest(self):
        rng = random.Random(14)
        found = {}
        for _ in range(300):
            many = rng.randrange(2, 7)
            x, y = rng.randrange(many), rng.randrange(many)
            table = changed(cyclic(many, [1])[1], x, y, rng.randrange(many))
            wrong = plain_fault(1, ((1,), table, ()))
            self.assertEqual(fault(1, ((1,), table, ())), wrong)
            found[wrong] = True
        self.assertGreater(len(found), 20)

    def test_order_is_found_late(self):
        # All joins are 0, but 3 3 is 1. With 3 1 being 2, (3 3) 3 is 0, and 3 (3 3) is 2.
        table = ((0, 0, 0, 0), (0, 0, 0, 0), (0, 0, 0, 0), (0, 0, 0, 1))
        self.assertIsNone(fault(1, ((3,), table, ())))
        table = changed(table, 3, 1, 2)
        self.assertEqual(fault(1, ((3,), table, ())), ("order", 3, 3, 3))

    def test_turn(self):
        # All joins are what comes first, so words may begin again with any letter.
        self.assertEqual(fault(2, ((0, 1), LEFT, ((0, 0),))), ("turn", 0, 0, 1))
        self.assertEqual(fault(2, ((0, 1), LEFT, ((1, 0),))), ("turn", 1, 0, 1))
        self.assertEqual(fault(2, ((0, 1), LEFT, ((0, 0), (0, 1), (1, 1)))), ("turn", 1, 0, 1))
        self.assertIsNone(fault(2, ((0, 1), LEFT, ((0, 0), (0, 1)))))

    def test_turn_in_a_circle(self):
        letters, mul, _ = cyclic(3, [1])
        self.assertEqual(fault(1, (letters, mul, ((0, 0),))), ("turn", 0, 1, 2))
        self.assertEqual(fault(1, (letters, mul, ((1, 0),))), ("turn", 0, 1, 2))
        self.assertEqual(fault(1, (letters, mul, ((2, 0),))), ("turn", 0, 2, 1))
        self.assertEqual(fault(1, (letters, mul, ((0, 0), (1, 0)))), ("turn", 0, 2, 1))

    def test_turn_lowest(self):
        rng = random.Random(15)
        found = {}
        for _, (letters, mul, _) in small_cases(16, 120, most_values=12):
            pairs = tuple(pair for pair in linked(mul) if rng.random() < 0.5)
            wrong = plain_fault(2, (letters, mul, pairs))
            self.assertEqual(fault(2, (letters, mul, pairs)), wrong)
            found[wrong] = True
        self.assertIn(None, found)
        self.assertGreater(len(found), 10)

    def test_two_faults(self):
        """Each pair of kinds of faults: the one that is checked first is returned."""
        wrong_order = ((1, 0), (1, 1))
        cases = [
            (("values",), (1, ((5,), (), ()))),
            (("values",), (1, ((0,), (), ((0, 0),)))),
            (("values",), (2, ((0,), ((0,) * 300,) * 301, ((0, 1),)))),
            (("letters",), (2, ((0, 2), ((0, 1), (1,)), ((1, 1),)))),
            (("letters",), (2, ((0,), ((0, 1), (1, 1)), ((1, 0),)))),
            (("letters",), (2, ((0, 2), wrong_order, ()))),
            (("letters",), (2, ((0, 2), LEFT, ((0, 0),)))),
            (("mul", 1), (2, ((0, 1), ((0, 1), (1, 2)), ((0, 1),)))),
            (("mul", 1), (2, ((0, 1), ((1, 0), (1, 2)), ()))),
            (("accepted",), (2, ((0, 1), wrong_order, ((0, 0),)))),
            (("accepted",), (2, ((0, 1), LEFT, ((0, 0), (0, 0))))),
            # 0 1 is 0 and 1 1 is 1: (0, 1) is a linked pair, and its turns are not accepted.
            (("order", 0, 0, 0), (2, ((0, 1), wrong_order, ((0, 1),)))),
        ]
        for wrong, arguments in cases:
            with self.subTest(arguments=arguments):
                self.assertEqual(fault(*arguments), wrong)

    def test_kinds(self):
        for count, reader in ((1, OFTEN), (1, ((0,), (), ())), (2, ((0, 1), LEFT, ((0, 0),)))):
            self.assertIsInstance(fault(count, reader), tuple)


class Values(unittest.TestCase):
    """Points 3 and 5: values and pairs."""

    def test_value(self):
        self.assertEqual([value(OFTEN, row) for row in ([0], [1], [0, 0], [0, 1], [1, 0, 0])],
                         [0, 1, 0, 1, 1])
        self.assertEqual([value(FIRST, row) for row in ([0, 1, 1], [1, 0, 0])], [0, 1])
        self.assertEqual(value(cyclic(7, [3, 5]), [0, 1, 1, 0, 0]), (3 * 3 + 2 * 5) % 7)

    def test_pair_with_an_empty_beginning(self):
        self.assertEqual(pair_of(OFTEN, ([], [0])), (0, 0))
        self.assertEqual(pair_of(OFTEN, ([], [0, 1])), (1, 1))
        self.assertEqual(pair_of(FIRST, ([], [1, 0])), (1, 1))

    def test_pair_with_a_beginning(self):
        self.assertEqual(pair_of(OFTEN, ([1, 0], [0])), (1, 0))
        self.assertEqual(pair_of(FIRST, ([0, 1], [1])), (0, 1))
        self.assertEqual(pair_of(AT_LAST, ([0, 1, 0], [1])), (0, 1))

    def test_settled_value(self):
        # 1, 2, 3, 4 and then 2 again: the first power of 1 that stays is 3.
        mul = tuple(tuple(x + y + 1 if x + y + 1 < 4 else (x + y) % 3 + 1 for y in range(4))
                    for x in range(4))
        reader = ((0,), mul, ())
        self.assertIsNone(fault(1, reader))
        self.assertEqual(pair_of(reader, ([], [0])), (2, 2))
        self.assertEqual(pair_of(reader, ([], [0, 0])), (2, 2))
        self.assertEqual(pair_of(reader, ([0], [0])), (3, 2))
        self.assertEqual(pair_of(cyclic(6, [1]), ([0, 0], [0])), (2, 0))

    def test_pairs_are_linked(self):
        for _, reader in small_cases(17, 20):
            for word in words(2, 2, 3):
                self.assertIn(pair_of(reader, word), linked(reader[1]))

    def test_kinds(self):
        self.assertIsInstance(pair_of(OFTEN, ([1], [0])), tuple)
        self.assertIs(accepts(OFTEN, ([1], [0])), False)
        self.assertIs(accepts(OFTEN, ([1], [1])), True)


class Accepts(unittest.TestCase):
    """Point 5: what readers accept."""

    def test_small_ones(self):
        for word in words(2, 3, 3):
            self.assertEqual(accepts(OFTEN, word), 1 in word[1])
            self.assertEqual(accepts(AT_LAST, word), 0 not in word[1])
            self.assertEqual(accepts(FIRST, word), (word[0] + word[1])[0] == 1)

    def test_of_automata(self):
        for automaton, reader in small_cases(18, 40):
            for word in words(2, 2, 4)[::2]:
                self.assertEqual(accepts(reader, word), automaton.takes(word))

    def test_written_otherwise(self):
        rng = random.Random(19)
        for automaton, reader in small_cases(20, 30, count=3):
            for word in some_words(rng, 3, 25):
                other = rewritten(rng, word)
                self.assertEqual(accepts(reader, other), accepts(reader, word))
                self.assertEqual(accepts(reader, other), automaton.takes(word))

    def test_long_words(self):
        self.assertTrue(accepts(OFTEN, ([0] * 5000, [0] * 5000 + [1])))
        self.assertFalse(accepts(OFTEN, ([1] * 5000, [0] * 5000)))


class Arguments(unittest.TestCase):
    def test_nothing_is_modified(self):
        row = [0, 1, 1]
        word = ([0, 1], [1, 0])
        before = deepcopy((row, word))
        value(OFTEN, row)
        pair_of(OFTEN, word)
        accepts(OFTEN, word)
        self.assertEqual((row, word), before)

    def test_values_of_all_short_words(self):
        for _, reader in small_cases(21, 10):
            for row in rows(2, 4)[1:]:
                found = reader[0][row[0]]
                for letter in row[1:]:
                    found = reader[1][found][reader[0][letter]]
                self.assertEqual(value(reader, row), found)


if __name__ == "__main__":
    unittest.main()
