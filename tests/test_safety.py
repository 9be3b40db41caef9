"""Points 38 and 39: safety, and what a beginning settles."""

import copy
import random
import unittest

from helpers import (AT_LAST, FIRST, OFTEN, Automaton, cyclic, linked, only_word, rows, small_cases,
                     some_words, two_circles, with_more_values, words)
from unendtold.readers import accepts, fault, value
from unendtold.safety import closure, is_liveness, is_safety, live_part, settled
from unendtold.values import denied, first_words, joint, least, parting, tidy

ALWAYS = ((0, 0), ((0,),), ((0, 0),))
NEVER = ((0, 0), ((0,),), ())
# There is no 1 at any moment; there is one at some moment.
NO_ONE = ((0, 1), ((0, 1), (1, 1)), ((0, 0),))
SOME_ONE = ((0, 1), ((0, 1), (1, 1)), ((1, 0), (1, 1)))
# The first letter is 1, and 1 stands at endlessly many moments.
BOTH = joint("both", FIRST, OFTEN)


def reached(automaton, row):
    """The states that the automaton is in behind a row of letters."""
    states = set(automaton.firsts)
    for letter in row:
        states = {q for p, a, q in automaton.steps if p in states and a == letter}
    return states


def live_states(automaton):
    """The states from which some word is taken: those with a way to a circle through `again`."""
    edges = {(p, q) for p, _, q in automaton.steps}

    def onward(states):
        found = set()
        while True:
            more = {q for p, q in edges if p in found | states} | found
            if more == found:
                return found
            found = more

    circles = {p for p in automaton.again if p in onward({p})}
    return {p for p in range(automaton.states) if ({p} | onward({p})) & circles}


def closed(automaton):
    """The automaton of the words on which one can stay in states that take some word.

    By that one can stay for ever if one can for each beginning, as there are few states.
    """
    live = live_states(automaton)
    steps = {(p, a, q) for p, a, q in automaton.steps if p in live and q in live}
    return Automaton(automaton.count, automaton.states, [p for p in automaton.firsts if p in live],
                     steps, sorted(live))


def goes_on(automaton, row):
    """Whether a beginning goes on to a word that is taken."""
    return bool(reached(automaton, row) & live_states(automaton))


def always_goes_on(automaton):
    """Whether each beginning does: no row of letters leads out of all live states."""
    trimmed = closed(automaton)
    start = frozenset(trimmed.firsts)
    known = {start}
    todo = [start]
    while todo:
        states = todo.pop()
        if not states:
            return False
        for letter in range(automaton.count):
            then = frozenset(q for p, a, q in trimmed.steps if p in states and a == letter)
            if then not in known:
                known.add(then)
                todo.append(then)
    return True


def cases(seed, many, count=2):
    """Automata with readers for them, half of which have a value that no word has."""
    rng = random.Random(seed)
    found = small_cases(seed, many, count, 30)
    return [(automaton, with_more_values(rng, reader) if at % 2 else reader)
            for at, (automaton, reader) in enumerate(found)]


class Case(unittest.TestCase):
    def assert_same_words(self, one, two):
        self.assertIsNone(parting(one, two))

    def assert_tidy(self, count, reader):
        self.assertIsNone(fault(count, reader))
        self.assertEqual(tidy(reader), reader)
        for part in reader + reader[1] + reader[2]:
            self.assertIsInstance(part, tuple)


class Closure(Case):
    def test_by_hand(self):
        for reader, told in [(ALWAYS, ALWAYS), (NEVER, NEVER), (NO_ONE, NO_ONE), (FIRST, FIRST)]:
            self.assertEqual(closure(reader), told)
        for reader in (SOME_ONE, OFTEN, AT_LAST):
            self.assert_same_words(closure(reader), ALWAYS)
        self.assert_same_words(closure(BOTH), FIRST)
        self.assert_same_words(closure(joint("both", NO_ONE, OFTEN)), NEVER)

    def test_tidy_with_other_pairs(self):
        for automaton, reader in cases(11, 60):
            found = closure(reader)
            self.assert_tidy(automaton.count, found)
            self.assertEqual(found[:2], tidy(reader)[:2])
            self.assertTrue(set(tidy(reader)[2]) <= set(found[2]) <= set(linked(found[1])))

    def test_held_against_staying_in_live_states(self):
        for count, longest in ((2, 3), (3, 2)):
            for automaton, reader in cases(12 + count, 60, count):
                found = closure(reader)
                trimmed = closed(automaton)
                for word in words(count, 2, longest):
                    self.assertIs(accepts(found, word), trimmed.takes(word))

    def test_held_against_beginnings(self):
        rng = random.Random(15)
        for automaton, reader in cases(16, 40):
            found = closure(reader)
            for word in some_words(rng, 2, 20, 4):
                row = word[0] + word[1] * 8
                told = all(goes_on(automaton, row[:end]) for end in range(len(row) + 1))
                self.assertIs(accepts(found, word), told)

    def test_of_a_closure(self):
        for _, reader in cases(17, 40):
            found = closure(reader)
            self.assertEqual(closure(found), found)
            self.assertIs(is_safety(found), True)


class LivePart(Case):
    def test_by_hand(self):
        for reader, told in [(ALWAYS, ALWAYS), (NEVER, ALWAYS), (NO_ONE, ALWAYS), (FIRST, ALWAYS),
                             (SOME_ONE, SOME_ONE), (OFTEN, OFTEN), (AT_LAST, AT_LAST),
                             (BOTH, joint("either", denied(FIRST), OFTEN))]:
            self.assert_same_words(live_part(reader), told)

    def test_held_against_the_words(self):
        for automaton, reader in cases(21, 60):
            found = live_part(reader)
            trimmed = closed(automaton)
            self.assert_tidy(2, found)
            for word in words(2, 2, 3):
                told = automaton.takes(word) or not trimmed.takes(word)
                self.assertIs(accepts(found, word), told)

    def test_is_the_joined_reader(self):
        for _, reader in cases(22, 40):
            self.assertEqual(live_part(reader), joint("either", reader, denied(closure(reader))))

    def test_is_of_liveness(self):
        for _, reader in cases(23, 40):
            self.assertIs(is_liveness(live_part(reader)), True)
            both = joint("both", closure(reader), live_part(reader))
            self.assert_same_words(both, reader)


class Kinds(Case):
    def test_by_hand(self):
        for reader, safe, lively in [(ALWAYS, True, True), (NEVER, True, False), (NO_ONE, True, False),
                                     (FIRST, True, False), (denied(FIRST), True, False),
                                     (SOME_ONE, False, True), (OFTEN, False, True),
                                     (AT_LAST, False, True), (BOTH, False, False)]:
            self.assertIs(is_safety(reader), safe)
            self.assertIs(is_liveness(reader), lively)

    def test_safety(self):
        told = {True: 0, False: 0}
        for automaton, reader in cases(31, 80) + cases(32, 20, 1):
            trimmed = closed(automaton)
            expected = all(automaton.takes(word) == trimmed.takes(word)
                           for word in words(automaton.count, 2, 4))
            self.assertIs(is_safety(reader), expected)
            told[expected] += 1
        self.assertGreater(min(told.values()), 5)

    def test_liveness(self):
        told = {True: 0, False: 0}
        for automaton, reader in cases(33, 80) + cases(34, 20, 1):
            expected = always_goes_on(automaton)
            self.assertIs(is_liveness(reader), expected)
            told[expected] += 1
        self.assertGreater(min(told.values()), 5)

    def test_values_that_no_word_has(self):
        # Of the added value any pairs are accepted or not: it makes no difference.
        rng = random.Random(35)
        for reader in (ALWAYS, NEVER, NO_ONE, SOME_ONE, OFTEN, AT_LAST, FIRST, BOTH):
            for _ in range(8):
                other = with_more_values(rng, reader)
                self.assertEqual(closure(other), closure(reader))
                self.assertEqual(live_part(other), live_part(reader))
                self.assertIs(is_safety(other), is_safety(reader))
                self.assertIs(is_liveness(other), is_liveness(reader))
                for row in rows(2, 3):
                    self.assertIs(settled(other, row), settled(reader, row))
        # Only the value 0 is one of words, and no pair of it is accepted; then all of them.
        self.assertIs(is_liveness(((0, 0), OFTEN[1], ((1, 0), (1, 1)))), False)
        self.assertIs(is_safety(((0, 0), OFTEN[1], ((1, 1),))), True)
        self.assertIs(is_liveness(((0, 0), OFTEN[1], ((0, 0),))), True)


class Settled(Case):
    def test_by_hand(self):
        for row in rows(2, 3):
            self.assertIs(settled(ALWAYS, row), True)
            self.assertIs(settled(NEVER, row), False)
            self.assertIsNone(settled(OFTEN, row))
            self.assertIsNone(settled(AT_LAST, row))
            self.assertIs(settled(SOME_ONE, row), True if 1 in row else None)
            self.assertIs(settled(NO_ONE, row), False if 1 in row else None)
            self.assertIs(settled(FIRST, row), bool(row[0]) if row else None)
            self.assertIs(settled(BOTH, row), False if row[:1] == [0] else None)

    def test_held_against_words_that_go_on(self):
        told = {True: 0, False: 0, None: 0}
        for automaton, reader in cases(41, 60):
            for row in rows(2, 3):
                found = {automaton.takes((row + before, again)) for before, again in words(2, 2, 3)}
                expected = found.pop() if len(found) == 1 else None
                self.assertIs(settled(reader, row), expected, (reader, row))
                self.assertIs(settled(reader, row) is not False, goes_on(automaton, row))
                told[expected] += 1
        self.assertGreater(min(told.values()), 20)

    def test_empty_beginning(self):
        told = {True: 0, False: 0, None: 0}
        for automaton, reader in cases(42, 60) + cases(43, 40, 1):
            found = {automaton.takes(word) for word in words(automaton.count, 3, 3)}
            expected = found.pop() if len(found) == 1 else None
            self.assertIs(settled(reader, []), expected)
            told[expected] += 1
        self.assertGreater(min(told.values()), 2)

    def test_one_letter_alone(self):
        # With one letter there is one word.
        for reader, told in [(cyclic(5, [1], True), True), (cyclic(5, [1]), False)]:
            for size in range(7):
                self.assertIs(settled(reader, [0] * size), told)

    def test_long_beginnings(self):
        only = only_word(2, [0, 1] * 5, 1).reader(random.Random(44))
        self.assertIsNone(settled(only, [0, 1] * 5 + [1] * 60))
        self.assertIs(settled(only, [0, 1] * 5 + [1] * 60 + [0]), False)
        self.assertIs(settled(denied(only), [0, 1] * 5 + [1] * 60 + [0]), True)


class Large(Case):
    """Readers of 300 values: none of the functions raises TooManyValues."""

    def check(self, reader, used):
        self.assertEqual(len(reader[1]), 300)
        self.assertEqual(len(first_words(reader)), used)
        for found in (closure(reader), live_part(reader)):
            self.assertEqual(len(found[1]), used)
            self.assertEqual(tidy(found), found)
        safe, lively = is_safety(reader), is_liveness(reader)
        self.assertIs(safe, least(closure(reader)) == least(reader))
        self.assertIs(lively, least(closure(reader)) == least((*closure(reader)[:2],
                                                              tuple(linked(closure(reader)[1])))))
        return safe, lively

    def test_all_values_are_those_of_words(self):
        self.assertEqual(self.check(cyclic(300, [1], True), 300), (True, True))
        self.assertEqual(self.check(cyclic(300, [1]), 300), (True, False))
        letters, mul, _ = two_circles(150, 149)
        zero = 299
        # Words of one letter alone; words of both letters.
        alone = tuple((s, f) for s, f in linked(mul) if s < zero)
        mixed = tuple((s, f) for s, f in linked(mul) if s == zero)
        self.assertEqual(self.check((letters, mul, alone), 300), (True, False))
        self.assertEqual(self.check((letters, mul, mixed), 300), (False, True))
        for row, told in [([], None), ([0], None), ([1, 1], None), ([0, 1], True), ([1, 0, 0], True)]:
            self.assertIs(settled((letters, mul, mixed), row), told)
            self.assertIs(settled((letters, mul, alone), row), None if told is None else False)

    def test_some_values_are_those_of_no_word(self):
        rng = random.Random(51)
        for reader, told in [(cyclic(299, [1], True), (True, True)), (cyclic(299, [1]), (True, False)),
                             ((two_circles(150, 148)[0], two_circles(150, 148)[1], ((298, 298),)),
                              (False, True))]:
            self.assertEqual(self.check(with_more_values(rng, reader), 299), told)
        # Every second value of the circle, all and none of its pairs being accepted.
        self.assertEqual(self.check(cyclic(300, [2], True), 150), (True, True))
        self.assertEqual(self.check(cyclic(300, [2, 4]), 150), (True, False))
        self.assertIs(settled(cyclic(300, [2, 4], True), []), True)
        self.assertIs(settled(cyclic(300, [2, 4]), [0, 1, 1]), False)


class Arguments(Case):
    def test_nothing_is_modified(self):
        rng = random.Random(61)
        for _, reader in cases(62, 10):
            kept = copy.deepcopy(reader)
            row = [rng.randrange(2) for _ in range(5)]
            same = list(row)
            closure(reader), live_part(reader), is_safety(reader), is_liveness(reader), settled(reader, row)
            self.assertEqual(reader, kept)
            self.assertEqual(row, same)
            self.assertEqual(value(reader, row), value(kept, same))


if __name__ == "__main__":
    unittest.main()
