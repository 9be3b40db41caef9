import random
import unittest
from itertools import product

from helpers import (AT_LAST, FIRST, OFTEN, Automaton, cyclic, linked, only_word, rows,
                     small_cases, some_automaton, some_words, two_circles, with_more_values, words)
from unendtold.errors import TooManyValues
from unendtold.readers import accepts, fault, pair_of, value
from unendtold.values import (denied, first_words, hidden, joint, least, parting, some_word,
                              tidy)

KINDS = {"both": lambda one, two: one and two,
         "either": lambda one, two: one or two,
         "one": lambda one, two: one != two}


def shortest_words(reader):
    """Point 6 as it is written: the first word of each value that words have."""
    many = len(reader[1])
    count = len(reader[0])
    found = {}
    for row in rows(count, many if count == 1 else 7)[1:]:
        found.setdefault(value(reader, row), row)
    return list(found.values())


def tidy_cases(seed, many, count=2):
    """Readers with a value that no word has, and in any order."""
    rng = random.Random(seed)
    return [(automaton, with_more_values(rng, reader))
            for automaton, reader in small_cases(seed, many, count)]


class Case(unittest.TestCase):
    def assert_tidy(self, count, reader):
        """A reader fits, and its values are numbered by their first words."""
        self.assertIsNone(fault(count, reader))
        for part in reader + reader[1] + reader[2]:
            self.assertIsInstance(part, tuple)
        found = first_words(reader)
        self.assertEqual(len(found), len(reader[1]))
        self.assertEqual([value(reader, row) for row in found], list(range(len(reader[1]))))
        self.assertEqual(sorted(found, key=lambda row: (len(row), row)), found)
        self.assertEqual(tidy(reader), reader)


class Tidy(Case):
    """Point 6."""

    def test_stays_as_it_is(self):
        for reader in (OFTEN, FIRST, ((0,), ((0,),), ((0, 0),)), AT_LAST):
            self.assertEqual(tidy(reader), reader)

    def test_values_that_no_word_has(self):
        self.assertEqual(tidy(((0, 0), OFTEN[1], OFTEN[2])), ((0, 0), ((0,),), ()))
        self.assertEqual(tidy(((1, 1), OFTEN[1], OFTEN[2])), ((0, 0), ((0,),), ((0, 0),)))
        self.assertEqual(tidy(cyclic(6, [2], True)), ((0,), ((1, 2, 0), (2, 0, 1), (0, 1, 2)),
                                                      ((0, 2), (1, 2), (2, 2))))

    def test_values_in_another_order(self):
        turned = ((1, 0), ((0, 0), (0, 1)), ((0, 0),))
        self.assertEqual(tidy(turned), OFTEN)
        self.assertEqual(first_words(turned), [[0], [1]])

    def test_numbered_by_first_words(self):
        for automaton, reader in tidy_cases(31, 40):
            found = tidy(reader)
            self.assert_tidy(2, found)
            for row in rows(2, 5)[1:]:
                word = first_words(reader)[value(found, row)]
                self.assertEqual(value(reader, word), value(reader, row))
                self.assertLessEqual((len(word), word), (len(row), row))
            for word in words(2, 2, 3):
                self.assertEqual(accepts(found, word), automaton.takes(word))

    def test_accepted_pairs(self):
        for _, reader in tidy_cases(32, 30):
            found = first_words(reader)
            pairs = [pair for pair in linked(tidy(reader)[1])
                     if accepts(reader, (found[pair[0]], found[pair[1]]))]
            self.assertEqual(tidy(reader)[2], tuple(pairs))

    def test_first_words(self):
        self.assertEqual(first_words(OFTEN), [[0], [1]])
        self.assertEqual(first_words(((1, 1), OFTEN[1], OFTEN[2])), [[0]])
        self.assertEqual(first_words(cyclic(4, [3])), [[0], [0, 0], [0, 0, 0], [0, 0, 0, 0]])
        self.assertEqual(first_words(cyclic(5, [1, 3])), [[0], [1], [0, 0], [0, 1], [0, 0, 1]])
        self.assertEqual(first_words(cyclic(4, [0, 3, 3])), [[0], [1], [1, 1], [1, 1, 1]])

    def test_first_words_are_the_shortest(self):
        for _, reader in tidy_cases(33, 25):
            self.assertEqual(first_words(reader), shortest_words(reader))

    def test_300_values(self):
        reader = tidy(cyclic(300, [7]))
        self.assertEqual(len(reader[1]), 300)
        self.assertEqual(reader[1][0][298], 299)
        self.assertEqual(len(first_words(cyclic(300, [7]))[299]), 300)

    def test_many_letters(self):
        reader = tidy(cyclic(64, range(64)))
        self.assertEqual(reader[0], tuple(range(64)))
        self.assertEqual(first_words(reader), [[a] for a in range(64)])


class Denied(Case):
    """Point 7."""

    def test_linked_pairs_that_are_not_accepted(self):
        self.assertEqual(denied(OFTEN), ((0, 1), ((0, 1), (1, 1)), ((0, 0), (1, 0))))
        self.assertEqual(denied(AT_LAST)[2], ((0, 0),))

    def test_says_the_contrary(self):
        for automaton, reader in tidy_cases(34, 30):
            found = denied(reader)
            self.assert_tidy(2, found)
            self.assertEqual(found[:2], tidy(reader)[:2])
            self.assertEqual(sorted(found[2] + tidy(reader)[2]), linked(found[1]))
            for word in words(2, 2, 3):
                self.assertEqual(accepts(found, word), not automaton.takes(word))

    def test_twice(self):
        for _, reader in tidy_cases(35, 10):
            self.assertEqual(denied(denied(reader)), tidy(reader))


class Joint(Case):
    """Point 7."""

    def test_small_ones(self):
        self.assertEqual(joint("both", OFTEN, OFTEN), OFTEN)
        self.assertEqual(joint("one", OFTEN, OFTEN)[2], ())
        # The values are (0, 0), (1, 1) and, of the word 0 1, (1, 0).
        for kind, accepted in (("both", ((1, 1), (1, 2))),
                               ("either", ((1, 0), (1, 1), (1, 2), (2, 1), (2, 2))),
                               ("one", ((1, 0), (2, 1), (2, 2)))):
            self.assertEqual(joint(kind, OFTEN, FIRST),
                             ((0, 1), ((0, 2, 2), (1, 1, 1), (2, 2, 2)), accepted))

    def test_each_kind(self):
        cases = tidy_cases(36, 24)
        for (one, first), (two, second) in zip(cases, cases[1:]):
            for kind, told in KINDS.items():
                found = joint(kind, first, second)
                self.assert_tidy(2, found)
                for word in words(2, 1, 3):
                    self.assertIs(accepts(found, word), told(one.takes(word), two.takes(word)))

    def test_values_are_pairs(self):
        cases = tidy_cases(37, 12)
        for (_, first), (_, second) in zip(cases, cases[1:]):
            found = joint("one", first, second)
            some = rows(2, 4)[1:]
            for one, two in product(some, some):
                same = (value(first, one) == value(first, two)
                        and value(second, one) == value(second, two))
                self.assertEqual(value(found, one) == value(found, two), same)

    def test_300_values(self):
        for kind in KINDS:
            found = joint(kind, cyclic(20, [1, 0]), cyclic(15, [0, 1], True))
            self.assertEqual(len(found[1]), 300)

    def test_too_many_values(self):
        for kind in KINDS:
            # 7 times 43 is 301.
            with self.assertRaises(TooManyValues):
                joint(kind, cyclic(7, [1, 0]), cyclic(43, [0, 1]))
            with self.assertRaises(TooManyValues):
                joint(kind, cyclic(300, [1, 0]), cyclic(300, [0, 1]))

    def test_values_of_words_alone_count(self):
        found = joint("both", cyclic(300, [1]), cyclic(300, [1]))
        self.assertEqual(len(found[1]), 300)
        self.assertEqual(len(joint("both", cyclic(300, [2]), cyclic(100, [2]))[1]), 150)


def looking_like(seen, word):
    """All words with lists of the same lengths of which this one is seen."""
    letters = [[a for a, b in enumerate(seen) if b == c] for c in word[0] + word[1]]
    size = len(word[0])
    return [(list(row[:size]), list(row[size:])) for row in product(*letters)]


class Hidden(Case):
    """Point 8."""

    def test_small_ones(self):
        # All words have the set of both values, and some word that looks alike is accepted.
        self.assertEqual(hidden(OFTEN, [0, 0], 1), ((0,), ((0,),), ((0, 0),)))
        self.assertEqual(hidden(((0, 0),) + OFTEN[1:], [0, 0], 1), ((0,), ((0,),), ()))
        self.assertEqual(hidden(OFTEN, [1, 0], 2), ((0, 1), ((0, 0), (0, 1)), ((0, 0),)))
        self.assertEqual(hidden(OFTEN, [0, 1], 2), OFTEN)

    def test_against_hidden_automata(self):
        rng = random.Random(38)
        for automaton, reader in tidy_cases(39, 25, count=3):
            for seen, count in (([0, 1, 0], 2), ([1, 1, 0], 2), ([0, 0, 0], 1), ([2, 0, 1], 3)):
                found = hidden(reader, seen, count)
                self.assert_tidy(count, found)
                looks = automaton.seen_as(seen, count)
                for word in some_words(rng, count, 20):
                    self.assertEqual(accepts(found, word), looks.takes(word))

    def test_many_letters_that_look_alike(self):
        rng = random.Random(40)
        seen = [0, 1, 2, 0, 1, 2, 0, 0, 1, 1]
        for _ in range(4):
            automaton = some_automaton(rng, 10, 2)
            found = hidden(automaton.reader(rng), seen, 3)
            self.assert_tidy(3, found)
            looks = automaton.seen_as(seen, 3)
            for word in words(3, 1, 3):
                self.assertEqual(accepts(found, word), looks.takes(word))

    def test_against_what_words_look_like(self):
        """A word is accepted just if one that looks like it is, over some more rounds."""
        seen = [0, 1, 0]
        told = []
        for _, reader in small_cases(41, 12, count=3, most_values=6):
            found = hidden(reader, seen, 2)
            for before, again in words(2, 1, 2):
                ways = [(before + again * k, again * j) for k in range(3) for j in range(1, 4)]
                alike = [word for way in ways for word in looking_like(seen, way)]
                told.append(any(accepts(reader, word) for word in alike))
                self.assertEqual(accepts(found, (before, again)), told[-1])
        self.assertEqual(sorted(set(told)), [False, True])

    def test_values_are_sets(self):
        seen = [0, 1, 0]
        for _, reader in tidy_cases(42, 8, count=3):
            found = hidden(reader, seen, 2)
            sets = {}
            for row in rows(2, 4)[1:]:
                alike = product(*[[a for a in range(3) if seen[a] == b] for b in row])
                some = tuple(sorted({value(reader, list(word)) for word in alike}))
                self.assertEqual(sets.setdefault(some, value(found, row)), value(found, row))
            self.assertEqual(len(sets), len(set(sets.values())))

    def test_300_values(self):
        # One set without mixed words, and 13 times 23 with them.
        self.assertEqual(len(hidden(two_circles(13, 23), [0, 0], 1)[1]), 300)
        self.assertEqual(len(hidden(cyclic(300, [1]), [0], 1)[1]), 300)

    def test_too_many_values(self):
        # One set without mixed words, and 12 times 25 with them.
        with self.assertRaises(TooManyValues):
            hidden(two_circles(12, 25), [0, 0], 1)
        with self.assertRaises(TooManyValues):
            hidden(two_circles(149, 150), [0, 0], 1)

    def test_all_sets_of_many_values(self):
        found = hidden(cyclic(300, range(64), True), [0] * 64, 1)
        self.assertEqual(len(found[1]), 5)
        self.assertTrue(accepts(found, ([], [0])))


def says_the_same(reader, x, y):
    """Point 9 as it is written, for a tidy reader."""
    _, mul, accepted = reader
    size = range(len(mul))

    def joined(*parts):
        found = None
        for part in parts:
            if part is not None:
                found = part if found is None else mul[found][part]
        return found

    def says(start, turn):
        f = turn
        while mul[f][f] != f:
            f = mul[f][turn]
        return (joined(start, f), f) in accepted

    maybe = [None, *size]
    return all(says(joined(a, x, b), c) == says(joined(a, y, b), c)
               for a in maybe for b in maybe for c in size) and all(
        says(a, joined(x, b)) == says(a, joined(y, b)) for a in maybe for b in maybe)


class Least(Case):
    """Point 9."""

    def test_small_ones(self):
        for reader in (OFTEN, AT_LAST, FIRST):
            self.assertEqual(least(reader), reader)
        self.assertEqual(least(cyclic(300, [1])), ((0,), ((0,),), ()))
        self.assertEqual(least(cyclic(300, [1, 4], True)), ((0, 0), ((0,),), ((0, 0),)))

    def test_values_that_a_letter_behind_them_tells_apart(self):
        # Whether 1 0 0 stands somewhere: only what follows tells 1 and 1 0 apart.
        states = {0: (0, 1), 1: (2, 1), 2: (3, 1), 3: (3, 3)}
        heads = [tuple(states[p][a] for p in range(4)) for a in (0, 1)]
        known = list(heads)
        for x in known:
            for y in heads:
                joined = tuple(y[p] for p in x)
                if joined not in known:
                    known.append(joined)
        mul = tuple(tuple(known.index(tuple(y[p] for p in x)) for y in known) for x in known)
        pairs = tuple((s, f) for s, f in linked(mul) if known[s][0] == 3)
        reader = ((0, 1), mul, pairs)
        self.assertIsNone(fault(2, reader))
        found = least(reader)
        self.assertNotEqual(value(found, [1]), value(found, [1, 0]))
        self.assertNotEqual(value(found, [0]), value(found, [0, 0]))
        self.assertEqual(value(found, [1, 0, 0]), value(found, [0, 1, 0, 0, 1]))
        for word in words(2, 3, 4):
            text = "".join(map(str, word[0] + word[1] * 3))
            self.assertEqual(accepts(found, word), "100" in text)

    def test_values_that_long_words_around_them_tell_apart(self):
        # Only behind 0 0 0 does 1 differ from 1 1, and only before 0 0 0 2 from 1 1.
        rng = random.Random(51)
        for count, before, letter in ((2, [0, 0, 0, 1], 0), (3, [1, 0, 0, 0], 2)):
            automaton = only_word(count, before, letter)
            reader = tidy(automaton.reader(rng))
            found = least(reader)
            self.assert_tidy(count, found)
            self.assertNotEqual(value(found, [1]), value(found, [1, 1]))
            self.assertTrue(accepts(found, (before, [letter])))
            for word in words(count, 4, 2):
                self.assertEqual(accepts(found, word), automaton.takes(word))
            number = [value(found, row) for row in first_words(reader)]
            for x in range(len(number)):
                for y in range(len(number)):
                    self.assertEqual(number[x] == number[y], says_the_same(reader, x, y))

    def test_values_that_are_told_apart_one_after_another(self):
        steps = {(0, 0, 1), (0, 1, 0), (0, 1, 1), (0, 1, 2), (1, 1, 1), (2, 0, 1), (2, 0, 2)}
        automaton = Automaton(2, 3, [0], steps, [0, 1, 2])
        reader = tidy(automaton.reader(random.Random(52)))
        self.assertEqual(len(reader[1]), 8)
        for x in range(8):
            for y in range(x):
                self.assertFalse(says_the_same(reader, x, y))
        self.assertEqual(least(reader), reader)

    def test_keeps_what_is_accepted(self):
        for automaton, reader in tidy_cases(43, 40):
            found = least(reader)
            self.assert_tidy(2, found)
            self.assertLessEqual(len(found[1]), len(tidy(reader)[1]))
            for word in words(2, 2, 4)[::2]:
                self.assertEqual(accepts(found, word), automaton.takes(word))

    def test_its_own_least_one(self):
        for _, reader in tidy_cases(44, 40):
            self.assertEqual(least(least(reader)), least(reader))

    def test_classes_of_values_that_make_no_difference(self):
        smaller = 0
        for _, reader in small_cases(45, 40, most_values=9):
            reader = tidy(reader)
            found = least(reader)
            size = range(len(reader[1]))
            row_of = first_words(reader)
            number = [value(found, row) for row in row_of]
            for x in size:
                for y in size:
                    self.assertEqual(number[x] == number[y], says_the_same(reader, x, y))
            self.assertEqual(sorted(set(number)), list(range(len(found[1]))))
            pairs = {(number[s], number[f]) for s, f in reader[2]}
            self.assertEqual(found[2], tuple(sorted(pairs)))
            smaller += len(found[1]) < len(reader[1])
        self.assertGreater(smaller, 5)

    def test_equal_for_readers_that_accept_the_same(self):
        rng = random.Random(46)
        for _, reader in small_cases(47, 25):
            told = least(reader)
            self.assertEqual(least(with_more_values(rng, reader)), told)
            self.assertEqual(least(denied(denied(reader))), told)
            self.assertEqual(least(joint("either", reader, reader)), told)
            if len(reader[1]) <= 15:
                other = joint("both", reader, cyclic(6, [1, 2], True))
                self.assertEqual(least(other), told)
                self.assertEqual(least(joint("either", OFTEN, joint("both", reader, OFTEN))),
                                 least(OFTEN))

    def test_differs_where_other_words_are_accepted(self):
        known = [case for case in small_cases(48, 25, most_values=8)]
        equal = 0
        for one, first in known:
            for two, second in known:
                same = least(first) == least(second)
                told = all(one.takes(word) == two.takes(word) for word in words(2, 3, 3))
                self.assertEqual(same, told)
                self.assertEqual(same, parting(first, second) is None)
                equal += same
        self.assertGreater(equal, 25)
        self.assertNotEqual(least(OFTEN), least(AT_LAST))
        self.assertNotEqual(least(OFTEN), least(denied(OFTEN)))

    def test_300_values(self):
        found = least(two_circles(149, 150))
        self.assertEqual(len(found[1]), 1)


class SomeWord(Case):
    """Point 10."""

    def test_example_of_the_document(self):
        self.assertEqual(some_word(((0, 1), ((0, 1), (1, 1)), ((1, 1),))), ([1], [1]))

    def test_small_ones(self):
        self.assertEqual(some_word(AT_LAST), ([0], [1]))
        self.assertEqual(some_word(FIRST), ([1], [0]))
        self.assertEqual(some_word(denied(OFTEN)), ([0], [0]))
        self.assertEqual(some_word(cyclic(3, [1], True)), ([0], [0, 0, 0]))

    def test_none(self):
        self.assertIsNone(some_word(((0,), ((0,),), ())))
        self.assertIsNone(some_word(joint("both", OFTEN, denied(OFTEN))))

    def test_pairs_of_values_that_no_word_has_do_not_count(self):
        self.assertIsNone(some_word(((0, 0), OFTEN[1], OFTEN[2])))

    def test_first_accepted_pair_of_the_tidy_reader(self):
        found = 0
        for automaton, reader in tidy_cases(49, 60):
            word = some_word(reader)
            pairs = [pair_of(tidy(reader), known) for known in words(2, 3, 3)
                     if automaton.takes(known)]
            if word is None:
                self.assertEqual(pairs, [])
                continue
            found += 1
            self.assertTrue(automaton.takes(word))
            self.assertEqual(pair_of(tidy(reader), word), tidy(reader)[2][0])
            for pair in pairs:
                self.assertLessEqual(tidy(reader)[2][0], pair)
            for part in word:
                self.assertIn(part, first_words(reader))
        self.assertGreater(found, 20)

    def test_kinds(self):
        word = some_word(FIRST)
        self.assertIsInstance(word, tuple)
        self.assertEqual([isinstance(part, list) for part in word], [True, True])


class Parting(Case):
    """Points 11 and 12."""

    def test_small_ones(self):
        self.assertEqual(parting(OFTEN, FIRST), ([1], [0]))
        self.assertEqual(parting(FIRST, OFTEN), ([1], [0]))
        self.assertEqual(parting(OFTEN, AT_LAST), ([0, 1], [0, 1]))
        self.assertEqual(parting(OFTEN, denied(OFTEN)), ([0], [0]))

    def test_none(self):
        self.assertIsNone(parting(OFTEN, OFTEN))
        self.assertIsNone(parting(FIRST, joint("both", FIRST, cyclic(5, [1, 1], True))))

    def test_just_one_accepts(self):
        cases = tidy_cases(50, 30)
        for (one, first), (two, second) in zip(cases, cases[1:]):
            word = parting(first, second)
            if word is None:
                for known in words(2, 2, 3):
                    self.assertEqual(one.takes(known), two.takes(known))
            else:
                self.assertNotEqual(one.takes(word), two.takes(word))
            self.assertEqual(word, some_word(joint("one", first, second)))

    def test_too_many_values(self):
        # 20 times 15 is 300, and the shortest word that leaves both as they are is 15 times 1.
        self.assertEqual(parting(cyclic(20, [1, 0]), cyclic(15, [0, 1], True)), ([0], [1] * 15))
        with self.assertRaises(TooManyValues):
            parting(cyclic(7, [1, 0]), cyclic(43, [0, 1], True))
        with self.assertRaises(TooManyValues):
            parting(cyclic(7, [1, 0]), cyclic(43, [0, 1]))


class Arguments(Case):
    def test_seen_is_not_modified(self):
        seen = [1, 0]
        hidden(OFTEN, seen, 2)
        self.assertEqual(seen, [1, 0])

    def test_returned_lists_are_new(self):
        for reader in (OFTEN, cyclic(4, [1], True)):
            told = first_words(reader)
            again = first_words(reader)
            for row in told:
                row.append(7)
            told.append([8])
            self.assertEqual(first_words(reader), again)
            word = some_word(reader)
            before = some_word(reader)
            word[0].append(7)
            self.assertEqual(word[1], before[1])
            word[1].append(7)
            self.assertEqual(some_word(reader), before)

    def test_beginning_and_round_are_two_lists(self):
        word = some_word(OFTEN)
        self.assertEqual(word, ([1], [1]))
        word[0].append(0)
        self.assertEqual(word, ([1, 0], [1]))
        word = parting(OFTEN, denied(OFTEN))
        word[0].append(0)
        self.assertEqual(word, ([0, 0], [0]))


if __name__ == "__main__":
    unittest.main()
