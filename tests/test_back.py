"""Points 23 and 24: the formulas of acceptors."""

import random
import unittest

from helpers import (AT_LAST, FIRST, OFTEN, Automaton, only_word, some_automaton, some_words,
                     words)
from unendtold.acceptors import acceptor_of, reader_of
from unendtold.back import formula_for
from unendtold.errors import TooManyLines, TooManyValues
from unendtold.formulas import depth_of, formula_reader, is_formula
from unendtold.readers import accepts
from unendtold.values import least

YES = ("not", ("and", ("set", 0), ("not", ("set", 0))))


def all_of(parts):
    return ("and", parts[0], all_of(parts[1:])) if parts else YES


def any_of(parts):
    return ("not", all_of([("not", part) for part in parts]))


def joined(parts):
    return parts[0] if len(parts) == 1 else ("both", parts[0], joined(parts[1:]))


def tree_for(acceptor, sets):
    """The formula of an acceptor, parts within parts."""
    letters, states, firsts, steps, again = acceptor

    def at(p):
        return all_of([("set", sets + q) if q == p else ("not", ("set", sets + q))
                       for q in range(states)])

    def letter(a):
        return all_of([("set", i) if a // 2 ** i % 2 else ("not", ("set", i)) for i in range(sets)])

    parts = [("all", any_of([at(p) for p in range(states)])),
             ("first", any_of([at(p) for p in firsts]))]
    for p in range(states):
        for a in range(letters):
            parts.append(("step", ("and", at(p), letter(a)),
                          any_of([at(q) for (r, b, q) in steps if (r, b) == (p, a)])))
    parts.append(("often", any_of([at(p) for p in again])))
    tree = joined(parts)
    for _ in range(states):
        tree = ("there", tree)
    return tree


def laid_out(tree):
    """The lines of a tree: those of its first part, of its second part, and its own."""
    lines = []

    def lay(part):
        named = part[1:] if part[0] == "set" else [lay(inner) for inner in part[1:]]
        lines.append((part[0], *named))
        return len(lines) - 1

    lay(tree)
    return tuple(lines)


def many_lines(states, many):
    """An acceptor of two letters with so many first states, steps and states of again."""
    steps = [(p, a, q) for p in range(states) for a in range(2) for q in range(states)]
    several = min(states, many)
    more = min(states, many - several)
    return (2, states, tuple(range(several)), tuple(steps[:many - several - more]),
            tuple(range(more)))


class FormulaFor(unittest.TestCase):
    def test_line_by_line(self):
        # One state, one step, by the letter 1; the state is the set 1.
        acceptor = (2, 1, (0,), ((0, 1, 0),), (0,))

        def yes(at):
            return [("set", 0), ("set", 0), ("not", at + 1), ("and", at, at + 2), ("not", at + 3)]

        def here(at):
            return [("set", 1), *yes(at + 1), ("and", at, at + 5)]

        def some(at):
            return [*here(at), ("not", at + 6), *yes(at + 8), ("and", at + 7, at + 12),
                    ("not", at + 13)]

        wanted = [*some(0), ("all", 14)]
        wanted += [*some(16), ("first", 30)]
        # The state and the letter 0; no step.
        wanted += [*here(32), ("set", 0), ("not", 39), *yes(41), ("and", 40, 45), ("and", 38, 46)]
        wanted += [*yes(48), ("not", 52), ("step", 47, 53)]
        # The state and the letter 1; one step.
        wanted += [*here(55), ("set", 0), *yes(63), ("and", 62, 67), ("and", 61, 68)]
        wanted += [*some(70), ("step", 69, 84)]
        wanted += [*some(86), ("often", 100)]
        wanted += [("both", 85, 101), ("both", 54, 102), ("both", 31, 103), ("both", 15, 104)]
        wanted += [("there", 105)]
        self.assertEqual(formula_for(acceptor, 1), tuple(wanted))

    def test_part_by_part(self):
        rng = random.Random(41)
        for _ in range(60):
            sets = rng.randrange(1, 4)
            acceptor = some_automaton(rng, 2 ** sets, rng.randrange(1, 4)).acceptor()
            self.assertEqual(formula_for(acceptor, sets), laid_out(tree_for(acceptor, sets)))

    def test_nothing_to_choose(self):
        for acceptor in [(2, 1, (), (), ()), (2, 3, (), ((0, 0, 1),), ()), (2, 2, (1,), (), (0,)),
                         (2, 12, (0, 11), (), (3,))]:
            self.assertEqual(formula_for(acceptor, 1), laid_out(tree_for(acceptor, 1)))

    def test_acceptors_that_are_made(self):
        for reader in [OFTEN[:2] + ((),), FIRST[:2] + ((),), OFTEN]:
            acceptor = acceptor_of(reader)
            self.assertEqual(formula_for(acceptor, 1), laid_out(tree_for(acceptor, 1)))

    def test_sets_beyond_those_that_are_passed(self):
        formula = formula_for((2, 12, (0,), (), (3,)), 1)
        self.assertIs(is_formula(formula), False)
        self.assertEqual(max(line[1] for line in formula if line[0] == "set"), 12)
        self.assertEqual(depth_of(formula, len(formula) - 1), 12)

    def test_sets_and_lines_of_a_small_one(self):
        formula = formula_for((8, 2, (0,), (), ()), 3)
        self.assertEqual(sorted({line[1] for line in formula if line[0] == "set"}), [0, 1, 2, 3, 4])


class TooMany(unittest.TestCase):
    def test_5000_lines(self):
        some = [(p, a, q) for p in range(9) for a in range(4) for q in range(9)]
        acceptor = (4, 9, tuple(range(9)), tuple(some[::4][:69]), tuple(range(9)))
        formula = formula_for(acceptor, 2)
        self.assertEqual(len(formula), 5000)
        self.assertEqual(formula, laid_out(tree_for(acceptor, 2)))
        more = (4, 9, tuple(range(9)), tuple(some[::4][:70]), tuple(range(9)))
        self.assertEqual(len(laid_out(tree_for(more, 2))), 5033)
        with self.assertRaises(TooManyLines):
            formula_for(more, 2)

    def test_5003_lines(self):
        right = many_lines(12, 73)
        self.assertEqual(formula_for(right, 1), laid_out(tree_for(right, 1)))
        wrong = many_lines(12, 74)
        self.assertEqual(len(laid_out(tree_for(wrong, 1))), 5003)
        with self.assertRaises(TooManyLines):
            formula_for(wrong, 1)

    def test_a_large_one(self):
        letter = tuple(range(8))
        last = (letter, (letter,) * 8, tuple((x, x) for x in range(8)))
        with self.assertRaises(TooManyLines):
            formula_for(acceptor_of(last), 3)


class WhatItMeans(unittest.TestCase):
    def check(self, acceptor, sets, tried):
        formula = formula_for(acceptor, sets)
        self.assertEqual(depth_of(formula, len(formula) - 1), acceptor[1])
        reader = formula_reader(formula, sets)
        searched = Automaton(*acceptor)
        for word in tried:
            self.assertIs(accepts(reader, word), searched.takes(word), (acceptor, word))
        self.assertEqual(reader, least(reader_of(acceptor)))

    def test_it_holds_for_the_words_that_are_taken(self):
        rng = random.Random(42)
        many = 0
        while many < 60:
            sets, states = rng.choice([(1, 1), (1, 2), (1, 3), (1, 4), (2, 1), (2, 2), (2, 3),
                                       (3, 1), (3, 2)])
            acceptor = some_automaton(rng, 2 ** sets, states).acceptor()
            tried = some_words(rng, 2 ** sets, 20)
            if sets == 1:
                tried += words(2, 2, 2)
            try:
                self.check(acceptor, sets, tried)
                many += 1
            except TooManyValues:
                self.assertGreater(states, 1)

    def test_one_word_alone(self):
        self.check(only_word(2, [1, 0], 1).acceptor(), 1, words(2, 3, 2))
        self.check(only_word(8, [6], 5).acceptor(), 3, words(8, 1, 1))
        self.check(only_word(4, [2, 1], 3).acceptor(), 2, words(4, 2, 1))

    def test_several_first_states_and_states_of_again(self):
        acceptor = (2, 3, (0, 1), ((0, 0, 0), (1, 1, 2), (2, 0, 1)), (0, 2))
        self.check(acceptor, 1, words(2, 3, 3))

    def test_the_formula_of_an_acceptor_that_is_made(self):
        acceptor = acceptor_of(((0, 0), ((0,),), ()))
        self.assertEqual(acceptor[1], 2)
        self.check(acceptor, 1, words(2, 2, 2))
        acceptor = acceptor_of(((0,) * 2, ((0,),), ((0, 0),)))
        self.assertEqual(acceptor[1], 4)
        self.check(acceptor, 1, words(2, 2, 2))
        acceptor = acceptor_of(AT_LAST[:2] + ((),))
        self.check(acceptor, 1, words(2, 2, 2))


if __name__ == "__main__":
    unittest.main()
