"""Points 13 to 16: acceptors, their readers, and the acceptors of readers."""

import copy
import random
import unittest

from helpers import (AT_LAST, FIRST, OFTEN, Automaton, cyclic, linked, only_word, rewritten, rows,
                     small_cases, some_automaton, some_words, two_circles, with_more_values, words)
from unendtold.acceptors import acceptor_of, is_acceptor, reader_of, takes
from unendtold.errors import TooManyValues
from unendtold.readers import accepts, fault, value
from unendtold.values import first_words, least, parting, tidy

# Readers of these have 300 and 301 values (found by trying, counted below).
WITH_300 = (3, 4, (0,), (
    (0, 1, 2), (0, 2, 0), (0, 2, 3), (1, 0, 1), (1, 2, 1), (1, 2, 3), (2, 0, 0), (2, 0, 1),
    (2, 1, 2), (2, 2, 1), (2, 2, 2), (3, 0, 0), (3, 0, 2), (3, 0, 3), (3, 1, 3), (3, 2, 1)), (1,))
WITH_301 = (3, 4, (0,), (
    (0, 0, 1), (0, 1, 1), (0, 2, 2), (1, 0, 2), (1, 1, 3), (2, 0, 3), (2, 2, 1), (2, 2, 3),
    (3, 1, 0), (3, 1, 1), (3, 2, 1), (3, 2, 2)), (0, 2))

ONCE_MORE = (2, 2, (0,), ((0, 0, 0), (0, 1, 1), (1, 0, 0), (1, 1, 1)), (1,))


def runs_over(acceptor, row):
    """All runs over a list of letters, as lists of states."""
    _, states, _, steps, _ = acceptor
    runs = [[p] for p in range(states)]
    for a in row:
        runs = [run + [q] for run in runs for (p, b, q) in steps if p == run[-1] and b == a]
    return runs


def told(acceptor, row):
    """The value of a list of letters in the words of point 14."""
    found = {}
    for run in runs_over(acceptor, row):
        ends = (run[0], run[-1])
        found[ends] = found.get(ends, False) or any(p in acceptor[4] for p in run[:-1])
    return tuple((p, q, found[p, q]) for p, q in sorted(found))


def told_behind(acceptor, before, row):
    """The value of a word whose first part has a value, joined part by part."""
    behind = told(acceptor, row)
    found = {}
    for p, q, seen in before:
        for r, s, more in behind:
            if q == r:
                found[p, s] = found.get((p, s), False) or seen or more
    return tuple((p, q, found[p, q]) for p, q in sorted(found))


def all_told(acceptor):
    """All values of words, with the first word of each, as many as there are."""
    known = {}
    todo = []
    for a in range(acceptor[0]):
        if told(acceptor, [a]) not in known:
            known[told(acceptor, [a])] = [a]
            todo.append(told(acceptor, [a]))
    for x in todo:
        for a in range(acceptor[0]):
            y = told_behind(acceptor, x, [a])
            if y not in known:
                known[y] = known[x] + [a]
                todo.append(y)
    return known


def is_accepted(acceptor, s, f):
    return any(p in acceptor[2] and (q, q, True) in f for (p, q, _) in s)


def written_out(reader):
    """The acceptor of a tidy reader, step by step as point 16 has it."""
    letters, mul, accepted = reader
    m, k = len(mul), len(accepted)
    gate = [1 + m + i * (m + 1) for i in range(k)]
    steps = set()

    def beside(p, a, q):
        steps.add((p, a, q))
        for i, (s, f) in enumerate(accepted):
            if q == 1 + s:
                steps.add((p, a, gate[i]))
            if q == gate[i] + 1 + f:
                steps.add((p, a, gate[i]))

    for a, y in enumerate(letters):
        beside(0, a, 1 + y)
        for x in range(m):
            beside(1 + x, a, 1 + mul[x][y])
        for g in gate:
            beside(g, a, g + 1 + y)
            for x in range(m):
                beside(g + 1 + x, a, g + 1 + mul[x][y])
    return (len(letters), 1 + m + k * (m + 1), (0,), tuple(sorted(steps)), tuple(gate))


def some_acceptors(seed, many, most_values):
    """Some acceptors with at most so many values."""
    rng = random.Random(seed)
    found = []
    while len(found) < many:
        count = rng.randrange(1, 4)
        states = rng.randrange(1, 4)
        chance = rng.choice([0.2, 0.4, 0.7])
        steps = {(p, a, q) for p in range(states) for a in range(count) for q in range(states)
                 if rng.random() < chance}
        some = [[p for p in range(states) if rng.random() < 0.6] for _ in range(2)]
        acceptor = Automaton(count, states, some[0], steps, some[1]).acceptor()
        if len(all_told(acceptor)) <= most_values:
            found.append(acceptor)
    return found


class IsAcceptor(unittest.TestCase):
    RIGHT = (2, 3, (0, 2), ((0, 0, 1), (0, 1, 0), (0, 1, 2), (2, 0, 0), (2, 1, 2)), (1, 2))

    def test_right_ones(self):
        for acceptor in [self.RIGHT, (1, 1, (), (), ()), (1, 1, (0,), ((0, 0, 0),), (0,)),
                         (64, 12, tuple(range(12)), ((0, 63, 11), (11, 0, 0)), tuple(range(12))),
                         WITH_300, WITH_301, ONCE_MORE]:
            self.assertIs(is_acceptor(acceptor), True, acceptor)

    def check_faults(self, at, faults):
        for wrong in faults:
            acceptor = self.RIGHT[:at] + (wrong,) + self.RIGHT[at + 1:]
            self.assertIs(is_acceptor(acceptor), False, acceptor)

    def test_numbers_of_letters(self):
        self.check_faults(0, [-1, 0, 65, 1000])
        self.assertIs(is_acceptor((64,) + self.RIGHT[1:]), True)
        self.assertIs(is_acceptor((1,) + self.RIGHT[1:]), False)
        self.assertIs(is_acceptor((0, 1, (0,), (), (0,))), False)

    def test_numbers_of_states(self):
        self.check_faults(1, [-1, 0, 2, 13, 2000])
        self.assertIs(is_acceptor((2, 12) + self.RIGHT[2:]), True)
        self.assertIs(is_acceptor((2, 0, (), (), ())), False)

    def test_first_states(self):
        self.check_faults(2, [(2, 0), (0, 0), (0, 3), (-1, 0), (3,), (0, 2, 1), (1, 2, 2)])

    def test_steps(self):
        self.check_faults(3, [
            ((0, 1, 0), (0, 0, 1)), ((0, 0, 1), (0, 0, 1)), ((0, 0, 2), (0, 0, 1)),
            ((1, 0, 0), (0, 0, 0)), ((0, 0, 3),), ((3, 0, 0),), ((0, 2, 0),), ((-1, 0, 0),),
            ((0, -1, 0),), ((0, 0, -1),), ((0, 0, 0), (0, 0, 3)), ((0, 0, 0), (1, 1, 1), (1, 0, 1))])

    def test_states_of_again(self):
        self.check_faults(4, [(2, 1), (1, 1), (3,), (-1,), (0, 1, 3), (0, 2, 2)])


class ReaderOf(unittest.TestCase):
    def test_by_hand(self):
        # The values: 0 and 1 without the state 1 before, and then both with it.
        self.assertEqual(reader_of(ONCE_MORE), (
            (0, 1), ((0, 1, 2, 3), (2, 3, 2, 3), (2, 3, 2, 3), (2, 3, 2, 3)), ((2, 2), (3, 3))))

    def test_the_last_state_does_not_count(self):
        there = (1, 2, (0,), ((0, 0, 1), (1, 0, 1)), (1,))
        # One step from 0 to 1 is not seen, two steps are.
        self.assertEqual(reader_of(there), ((0,), ((1, 1), (1, 1)), ((1, 1),)))

    def test_no_steps_no_first_state_none_again(self):
        nothing = ((0, 0), ((0,),), ())
        self.assertEqual(reader_of((2, 3, (0,), (), (0,))), nothing)
        self.assertEqual(reader_of((2, 1, (), ((0, 0, 0), (0, 1, 0)), (0,))), nothing)
        self.assertEqual(reader_of((2, 1, (0,), ((0, 0, 0), (0, 1, 0)), ())), nothing)
        self.assertEqual(reader_of((2, 1, (0,), ((0, 0, 0), (0, 1, 0)), (0,))),
                         ((0, 0), ((0,),), ((0, 0),)))

    def test_values_of_the_document(self):
        for acceptor in some_acceptors(11, 60, 60):
            reader = reader_of(acceptor)
            known = all_told(acceptor)
            self.assertEqual(first_words(reader), list(known.values()))
            self.assertEqual(len(reader[1]), len(known))
            numbers = {key: at for at, key in enumerate(known)}
            for row in rows(acceptor[0], 4):
                if row:
                    self.assertEqual(value(reader, row), numbers[told(acceptor, row)])
            keys = list(known)
            self.assertEqual(reader[2], tuple((s, f) for s, f in linked(reader[1])
                                              if is_accepted(acceptor, keys[s], keys[f])))

    def test_fits_and_is_tidy(self):
        for acceptor in some_acceptors(12, 60, 120):
            reader = reader_of(acceptor)
            self.assertIsNone(fault(acceptor[0], reader))
            self.assertEqual(tidy(reader), reader)

    def test_it_is_not_made_least(self):
        self.assertEqual(len(least(reader_of(ONCE_MORE))[1]), 2)
        self.assertEqual(len(reader_of(ONCE_MORE)[1]), 4)

    def test_many_letters_and_states(self):
        # A circle of 12 states; each letter goes on by its number.
        steps = tuple((p, a, (p + a) % 12) for p in range(12) for a in range(64))
        reader = reader_of((64, 12, (0,), steps, tuple(range(12))))
        self.assertEqual(reader, cyclic(12, [a % 12 for a in range(64)], True))


class Takes(unittest.TestCase):
    def test_held_against_searched_runs(self):
        rng = random.Random(13)
        for acceptor in some_acceptors(14, 60, 60):
            searched = Automaton(*acceptor)
            for word in words(acceptor[0], 2, 2) + some_words(rng, acceptor[0], 10):
                self.assertIs(takes(acceptor, word), searched.takes(word), (acceptor, word))

    def test_more_states(self):
        rng = random.Random(15)
        tried = 0
        while tried < 12:
            searched = some_automaton(rng, 2, rng.randrange(4, 6))
            searched.steps = {step for step in searched.steps if rng.random() < 0.5}
            if len(all_told(searched.acceptor())) <= 300:
                tried += 1
                for word in some_words(rng, 2, 15):
                    self.assertIs(takes(searched.acceptor(), word), searched.takes(word))

    def test_however_a_word_is_written(self):
        rng = random.Random(16)
        for acceptor in some_acceptors(17, 30, 60):
            for word in some_words(rng, acceptor[0], 5, 4):
                again = rewritten(rng, word)
                self.assertIs(takes(acceptor, word), takes(acceptor, again), (acceptor, word))

    def test_one_word_alone(self):
        acceptor = only_word(3, [0, 2, 1], 2).acceptor()
        self.assertIs(takes(acceptor, ([0, 2, 1], [2])), True)
        self.assertIs(takes(acceptor, ([0, 2, 1, 2], [2, 2])), True)
        for word in [([0, 2, 1], [1]), ([], [2]), ([0, 2, 1, 2, 2], [2, 1]), ([2, 2, 1], [2])]:
            self.assertIs(takes(acceptor, word), False)

    def test_many_values(self):
        self.assertEqual(len(all_told(WITH_300)), 300)
        self.assertEqual(len(all_told(WITH_301)), 301)
        self.assertEqual(len(reader_of(WITH_300)[1]), 300)
        self.assertIsNone(fault(3, reader_of(WITH_300)))
        searched = Automaton(*WITH_300)
        for word in [([], [0]), ([1], [2]), ([2, 0], [1, 2]), ([0], [0, 1, 2])]:
            self.assertIs(takes(WITH_300, word), searched.takes(word))

    def test_too_many_values_whatever_the_word_is(self):
        with self.assertRaises(TooManyValues):
            reader_of(WITH_301)
        for word in words(3, 1, 2):
            with self.assertRaises(TooManyValues):
                takes(WITH_301, word)

    def test_too_many_values_without_first_states(self):
        with self.assertRaises(TooManyValues):
            reader_of(WITH_301[:2] + ((),) + WITH_301[3:])


class AcceptorOf(unittest.TestCase):
    ALWAYS = ((0,), ((0,),), ((0, 0),))

    def test_by_hand(self):
        self.assertEqual(acceptor_of(self.ALWAYS), (
            1, 4, (0,), ((0, 0, 1), (0, 0, 2), (1, 0, 1), (1, 0, 2),
                         (2, 0, 2), (2, 0, 3), (3, 0, 2), (3, 0, 3)), (2,)))

    def test_step_by_step(self):
        none, one, several = OFTEN[:2] + ((),), OFTEN, AT_LAST
        for reader in [none, one, several, FIRST, self.ALWAYS, cyclic(5, [1, 3, 1], True)]:
            self.assertEqual(acceptor_of(reader), written_out(tidy(reader)))
        for _, reader in small_cases(21, 40, most_values=25):
            self.assertEqual(acceptor_of(reader), written_out(tidy(reader)))

    def test_no_accepted_pair(self):
        self.assertEqual(acceptor_of(FIRST[:2] + ((),)), (
            2, 3, (0,), ((0, 0, 1), (0, 1, 2), (1, 0, 1), (1, 1, 1), (2, 0, 2), (2, 1, 2)), ()))

    def test_the_reader_is_made_tidy_first(self):
        rng = random.Random(22)
        for _, reader in small_cases(23, 20, most_values=15):
            self.assertEqual(acceptor_of(with_more_values(rng, reader)),
                             acceptor_of(tidy(reader)))

    def test_the_same_words_are_accepted(self):
        rng = random.Random(24)
        for _, reader in small_cases(25, 30, most_values=12):
            searched = Automaton(*acceptor_of(reader))
            for word in words(2, 1, 2) + some_words(rng, 2, 10):
                self.assertIs(searched.takes(word), accepts(reader, word), (reader, word))

    def test_what_is_made_is_taken_by_the_others(self):
        back = 0
        for reader in [OFTEN, AT_LAST, FIRST, self.ALWAYS, OFTEN[:2] + ((),), cyclic(3, [1], True),
                       *[case for _, case in small_cases(26, 25, most_values=8)]]:
            acceptor = acceptor_of(reader)
            count = len(reader[0])
            if len(all_told(acceptor)) > 300:
                with self.assertRaises(TooManyValues):
                    takes(acceptor, ([], [0]))
                continue
            back += 1
            self.assertIsNone(parting(reader_of(acceptor), reader))
            for word in words(count, 1, 2):
                self.assertIs(takes(acceptor, word), accepts(reader, word))
        self.assertGreaterEqual(back, 10)

    def test_is_an_acceptor_while_it_is_small(self):
        self.assertIs(is_acceptor(acceptor_of(OFTEN)), True)
        self.assertIs(is_acceptor(acceptor_of(AT_LAST)), True)
        self.assertIs(is_acceptor(acceptor_of(cyclic(3, [1], True))), False)
        self.assertEqual(acceptor_of(cyclic(3, [1], True))[1], 16)

    def test_large_ones(self):
        circles = two_circles(149, 150)
        self.assertEqual(len(reader_of(acceptor_of(circles))[1]), 300)
        letter = tuple(range(64))
        last = (letter, (letter,) * 64, tuple((x, x) for x in range(29)))
        acceptor = acceptor_of(last)
        self.assertEqual(acceptor[1], 30 * 65)
        self.assertEqual(acceptor, written_out(last))
        with self.assertRaises(TooManyValues):
            takes(acceptor, ([], [3]))

    def test_many_states_and_few_values(self):
        # The words that have no 0 behind a 1.
        table = ((0, 2, 2, 3), (3, 1, 3, 3), (3, 2, 3, 3), (3, 3, 3, 3))
        reader = ((0, 1), table, ((0, 0), (1, 1), (2, 1)))
        self.assertIsNone(fault(2, reader))
        made = reader_of(acceptor_of(reader))
        self.assertIsNone(fault(2, made))
        self.assertIsNone(parting(made, reader))


class Arguments(unittest.TestCase):
    def test_words_are_not_modified(self):
        word = ([0, 1], [1, 0])
        kept = copy.deepcopy(word)
        takes(ONCE_MORE, word)
        self.assertEqual(word, kept)


if __name__ == "__main__":
    unittest.main()
