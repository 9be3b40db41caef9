"""Points 26 to 30: conditions about words of states, and their readers."""

import copy
import random
import unittest

from helpers import (AT_LAST, FIRST, OFTEN, beside_each_other, condition_holds, pair_values,
                     some_condition, some_words, spans_of, values_of, words)
from unendtold.conditions import condition_reader, is_condition, says
from unendtold.errors import TooManyValues
from unendtold.readers import accepts, fault
from unendtold.values import denied, joint, least

# The state 1 has the mark 0; the states 2 and 3 of the larger one have 1 and both.
SMALL = (2, (0,), ((0, 0), (0, 1), (1, 0), (1, 1)), ((), (0,)))
LARGE = (4, (0, 1), ((0, 1), (1, 2), (2, 3), (3, 0)), ((), (0,), (1,), (0, 1)))
NESTED = (3, (0,), ((0, 1), (1, 2), (2, 0)), ((0, 1), (0,), ()))

MARK = (("mark", 0, 0),)
EVENTUALLY = (("yes",), ("mark", 0, 0), ("till", 0, 1))

# For LARGE, and NEXT_301 for NESTED: readers of parts that have 300 or 301 values together (found by trying).
NEXT_300 = (("mark", 1, 0), ("next", 0), ("next", 1), ("next", 2), ("mark", 0, 0), ("both", 3, 4),
            ("next", 5))
NEXT_301 = (("mark", 0, 0), ("next", 0), ("till", 0, 1), ("next", 2), ("till", 2, 3), ("next", 4),
            ("next", 5), ("mark", 1, 0), ("till", 6, 7))
TILL_300 = ((("mark", 0, 0), ("next", 0), ("next", 1), ("next", 2)),
            (("mark", 1, 0), ("next", 0), ("next", 1), ("till", 0, 2)))
TILL_301 = ((("mark", 0, 0), ("mark", 1, 0), ("till", 0, 1), ("next", 0), ("till", 2, 3)),
            (("mark", 1, 0), ("not", 0), ("next", 1), ("next", 2), ("till", 3, 2), ("next", 4),
             ("next", 5)))
BOTH_300 = ((("mark", 0, 0), ("next", 0), ("till", 1, 0), ("next", 2)),
            (("mark", 1, 0), ("next", 0), ("next", 1), ("next", 2), ("next", 3)))
BOTH_301 = ((("mark", 1, 0), ("next", 0), ("both", 0, 1), ("next", 2), ("next", 3)),
            (("mark", 0, 0), ("next", 0), ("next", 1), ("till", 2, 0), ("next", 2), ("till", 3, 4)))


def together(name, first, second):
    """The condition that names two conditions in its last line."""
    shift = len(first)
    moved = [line if line[0] in ("yes", "mark", "same") else
             (line[0], *[number + shift for number in line[1:]]) for line in second]
    return (*first, *moved, (name, shift - 1, shift + len(second) - 1))


def next_values(reader):
    """All values of stretches for `next`."""
    letters, mul, _ = reader
    return values_of([(-1, v) for v in letters], lambda x, y: (
        y[1] if x[0] == -1 else mul[x[0]][y[1]], mul[x[1]][y[1]]))


def till_values(one, two):
    """All values of stretches for `till`, in the words of point 29, as pairs of the
    pair of values and of what comes of waiting for each future.
    """
    letters = list(zip(one[0], two[0]))
    told = [dict.fromkeys(reader[2], True) for reader in (one, two)]

    def times(x, y):
        return (one[1][x[0]][y[0]], two[1][x[1]][y[1]])

    def say(s, f):
        return tuple((s[i], f[i]) in told[i] for i in (0, 1))

    known = pair_values(one, two)
    futures = list(dict.fromkeys(
        (say(s, f), *[say(times(v, s), f) for v in known])
        for f in known if times(f, f) == f for s in known if times(s, f) == s))
    place = {v: 1 + at for at, v in enumerate(known)}

    def waited(behind, future):
        for v in behind:
            first, second = future[place[v]]
            if second:
                return "hit"
            if not first:
                return "miss"
        return "open"

    def value_of(behind):
        return (behind[0], tuple(waited(behind, future) for future in futures))

    # A stretch is the list of the values of all its ends, the longest one first.
    stretches = [[v] for v in letters]
    found = {}
    for behind in stretches:
        if value_of(behind) not in found:
            found[value_of(behind)] = True
            stretches.extend([times(v, y) for v in behind] + [y] for y in dict.fromkeys(letters))
    return list(found)


def some_machine(rng):
    count = rng.randrange(1, 5)
    marks = tuple(tuple(m for m in range(4) if rng.random() < 0.4) for _ in range(count))
    return (count, (0,), (), marks)


class IsCondition(unittest.TestCase):
    RIGHT = (("yes",), ("mark", 3, 1), ("same", 0, 1), ("not", 2), ("both", 1, 3), ("next", 4),
             ("till", 5, 0))

    def test_right_ones(self):
        for runs in (2, 3):
            for end in range(1, len(self.RIGHT) + 1):
                self.assertIs(is_condition(self.RIGHT[:end], runs), True)
        self.assertIs(is_condition((("same", 0, 0),), 1), True)
        self.assertIs(is_condition((("yes",), ("till", 0, 0), ("both", 1, 1)), 0), True)

    def test_numbers_of_lines(self):
        for runs in range(4):
            self.assertIs(is_condition((), runs), False)
            self.assertIs(is_condition((("yes",),) * 60, runs), True)
            self.assertIs(is_condition((("yes",),) * 61, runs), False)

    def test_numbers_of_runs(self):
        self.assertIs(is_condition((("yes",),), -1), False)
        self.assertIs(is_condition((("yes",),), 4), False)
        for runs in range(4):
            for k in range(-2, 5):
                told = 0 <= k < runs
                self.assertIs(is_condition((("mark", 0, k),), runs), told)
                if runs:
                    self.assertIs(is_condition((("same", 0, k),), runs), told)
                    self.assertIs(is_condition((("same", k, 0),), runs), told)
            self.assertIs(is_condition((("same", 0, 0),), runs), runs > 0)

    def test_marks(self):
        for m in range(-2, 7):
            self.assertIs(is_condition((("mark", m, 0),), 1), 0 <= m <= 3)
            self.assertIs(is_condition((("mark", m, 2),), 3), 0 <= m <= 3)

    def check_wrong(self, line):
        for condition in [self.RIGHT + (line,), self.RIGHT + (line, ("yes",))]:
            self.assertIs(is_condition(condition, 2), False, condition)

    def test_names(self):
        for name in ["", "Yes", "set", "and", "all", "often", "or", "until", "no", "line", "run"]:
            for numbers in [(), (0,), (0, 0)]:
                self.check_wrong((name, *numbers))
        self.check_wrong(())
        self.assertIs(is_condition(((),), 0), False)

    def test_members_too_many_or_too_few(self):
        for line in [("yes", 0), ("yes", 0, 0), ("mark",), ("mark", 0), ("mark", 0, 0, 0), ("same",),
                     ("same", 0), ("same", 0, 0, 0), ("not",), ("not", 0, 0), ("both",), ("both", 0),
                     ("both", 0, 0, 0), ("next",), ("next", 0, 0), ("till",), ("till", 0),
                     ("till", 0, 0, 0)]:
            self.check_wrong(line)

    def test_lines_that_are_not_earlier(self):
        for number in [-8, -7, -1, 7, 8, 9, 60]:
            for line in [("not", number), ("next", number), ("both", number, 0), ("both", 0, number),
                         ("till", number, 0), ("till", 0, number)]:
                self.check_wrong(line)
        for line in [("not", 0), ("next", 0), ("both", 0, 0), ("till", 0, 0)]:
            self.assertIs(is_condition((line,), 1), False)
            self.assertIs(is_condition((line, ("yes",)), 1), False)


class Says(unittest.TestCase):
    def test_yes_mark_same(self):
        word = ([0, 1], [2, 3])
        self.assertEqual(says(LARGE, [word], (("yes",),)), ([True, True], [True, True]))
        self.assertEqual(says(LARGE, [word], (("mark", 0, 0),)), ([False, True], [False, True]))
        self.assertEqual(says(LARGE, [word], (("mark", 1, 0),)), ([False, False], [True, True]))
        self.assertEqual(says(LARGE, [word], (("mark", 2, 0),)), ([False, False], [False, False]))
        other = ([0, 3, 2], [3])
        self.assertEqual(says(LARGE, [word, other], (("same", 0, 1),)),
                         ([True, False, True], [True, False]))
        self.assertEqual(says(LARGE, [word, other], (("mark", 0, 1),)),
                         ([False, True, False], [True, True]))

    def test_same_marks_of_different_states(self):
        machine = (3, (0,), (), ((2,), (1, 2), (2,)))
        self.assertEqual(says(machine, [([], [0, 1]), ([], [2])], (("same", 0, 1),)),
                         ([], [True, False]))

    def test_not_and_both(self):
        condition = (("mark", 0, 0), ("mark", 1, 0), ("not", 0), ("both", 2, 1))
        self.assertEqual(says(LARGE, [([0, 3], [1, 2])], condition), ([False, False], [False, True]))

    def test_next(self):
        self.assertEqual(says(SMALL, [([0, 1], [0, 1, 1])], (*MARK, ("next", 0))),
                         ([True, False], [True, True, False]))
        self.assertEqual(says(SMALL, [([0], [1])], (*MARK, ("next", 0))), ([True], [True]))
        self.assertEqual(says(SMALL, [([], [1, 0, 0])], (*MARK, ("next", 0), ("next", 1))),
                         ([], [False, True, False]))

    def test_till(self):
        self.assertEqual(says(SMALL, [([0, 1, 0], [0])], EVENTUALLY),
                         ([True, True, False], [False]))
        self.assertEqual(says(SMALL, [([0, 0], [0, 1, 0])], EVENTUALLY),
                         ([True, True], [True, True, True]))
        # Mark 0 till mark 1: the round goes on into itself.
        condition = (("mark", 0, 0), ("mark", 1, 0), ("till", 0, 1))
        self.assertEqual(says(LARGE, [([1, 0, 1], [1, 2, 0, 1])], condition),
                         ([False, False, True], [True, True, False, True]))
        self.assertEqual(says(LARGE, [([1, 1], [1])], condition), ([False, False], [False]))
        self.assertEqual(says(LARGE, [([1, 1], [3])], condition), ([True, True], [True]))

    def test_no_words(self):
        for condition, told in [((("yes",),), True), ((("yes",), ("not", 0)), False),
                                ((("yes",), ("next", 0)), True), ((("yes",), ("till", 0, 0)), True),
                                ((("yes",), ("not", 0), ("till", 0, 1)), False)]:
            self.assertEqual(says(SMALL, [], condition), ([], [told]))

    def test_moments_together(self):
        found = says(SMALL, [([0, 1, 1], [0, 1]), ([], [1, 0, 0]), ([1], [1])], MARK)
        self.assertEqual([len(row) for row in found], [3, 6])
        self.assertEqual(found, ([False, True, True], [False, True] * 3))

    def test_lines_that_are_not_used(self):
        condition = (("mark", 3, 0), ("next", 0), ("till", 0, 1), ("mark", 0, 0))
        self.assertEqual(says(SMALL, [([0], [1])], condition), ([False], [True]))

    def test_long_rounds(self):
        rng = random.Random(51)
        rows = [[rng.randrange(2) for _ in range(size)] for size in (59, 60, 49)]
        given = [([], row) for row in rows]
        before, again = says(SMALL, given, (("same", 0, 1), ("mark", 0, 2), ("both", 0, 1)))
        self.assertEqual((len(before), len(again)), (0, 59 * 60 * 49))
        for t in rng.sample(range(59 * 60 * 49), 200):
            self.assertIs(again[t], rows[0][t % 59] == rows[1][t % 60] and rows[2][t % 49] == 1)

    def test_held_against_what_the_lines_mean(self):
        rng = random.Random(52)
        for _ in range(500):
            machine, runs = some_machine(rng), rng.randrange(4)
            condition = some_condition(rng, runs, rng.randrange(1, 9))
            given = some_words(rng, machine[0], runs, 3)
            start, length = spans_of(given)
            row = [condition_holds(machine, given, condition, len(condition) - 1, t)
                   for t in range(start + length)]
            self.assertEqual(says(machine, given, condition), (row[:start], row[start:]))


class Lines(unittest.TestCase):
    """The reader of each line."""

    def test_by_hand(self):
        always = ((0, 0), ((0,),), ((0, 0),))
        self.assertEqual(condition_reader(SMALL, (("yes",),), 1), always)
        self.assertEqual(condition_reader(SMALL, MARK, 1), FIRST)
        self.assertEqual(condition_reader(SMALL, (("mark", 1, 0),), 1), (*always[:2], ()))
        self.assertEqual(condition_reader(SMALL, (("same", 0, 0),), 1), always)
        self.assertEqual(condition_reader(SMALL, (*MARK, ("not", 0)), 1),
                         ((0, 1), ((0, 0), (1, 1)), ((0, 0), (0, 1))))
        self.assertEqual(condition_reader(SMALL, EVENTUALLY, 1),
                         ((0, 1), ((0, 1), (1, 1)), ((1, 0), (1, 1))))

    def test_next_by_hand(self):
        # The values are those of 0, 1, 00, 01, 10 and 11.
        table = ((2, 3, 2, 2, 3, 3), (4, 5, 4, 4, 5, 5), (2,) * 6, (3,) * 6, (4,) * 6, (5,) * 6)
        self.assertEqual(condition_reader(SMALL, (*MARK, ("next", 0)), 1), (
            (0, 1), table, tuple((s, f) for s in (3, 5) for f in (2, 3, 4, 5))))

    def test_no_runs(self):
        for machine in (SMALL, LARGE):
            always = ((0,), ((0,),), ((0, 0),))
            for condition in [(("yes",),), (("yes",), ("next", 0)), (("yes",), ("till", 0, 0))]:
                self.assertEqual(condition_reader(machine, condition, 0), always)
            self.assertEqual(condition_reader(machine, (("yes",), ("not", 0)), 0), (*always[:2], ()))

    def test_runs_side_by_side(self):
        # The first run's state is the highest digit.
        reader = condition_reader(LARGE, (("mark", 1, 0),), 2)
        self.assertEqual(reader[0], (0,) * 8 + (1,) * 8)
        reader = condition_reader(LARGE, (("mark", 1, 1),), 2)
        self.assertEqual(reader[0], (0, 0, 1, 1) * 4)
        reader = condition_reader(LARGE, (("same", 0, 2),), 3)
        self.assertEqual(reader[0], tuple(int(p != q) for p in range(4) for _ in range(4)
                                          for q in range(4)))

    def test_made_line_by_line(self):
        condition = (*EVENTUALLY, ("not", 2), ("both", 1, 3))
        first, second, third = [condition_reader(SMALL, condition[:end], 1) for end in (2, 3, 4)]
        self.assertEqual(third, least(denied(second)))
        self.assertEqual(condition_reader(SMALL, condition, 1), least(joint("both", first, third)))

    def test_again_and_again(self):
        # Not: at some moment it will never hold again.
        often = (*EVENTUALLY, ("not", 2), ("till", 0, 3), ("not", 4))
        self.assertEqual(condition_reader(SMALL, often, 1), OFTEN)
        at_last = (("yes",), ("mark", 0, 0), ("not", 1), ("till", 0, 2), ("not", 3), ("till", 0, 4))
        self.assertEqual(condition_reader(SMALL, at_last, 1), AT_LAST)


class WhatTheyMean(unittest.TestCase):
    def check(self, machine, condition, runs, tried):
        reader = condition_reader(machine, condition, runs)
        self.assertIsNone(fault(machine[0] ** runs, reader))
        self.assertEqual(least(reader), reader)
        for given in tried:
            before, again = says(machine, given, condition)
            self.assertIs(accepts(reader, beside_each_other(given, machine[0])), (before + again)[0],
                          (machine, condition, given))

    def test_held_against_says(self):
        rng = random.Random(61)
        for _ in range(400):
            machine, runs = some_machine(rng), rng.randrange(4)
            condition = some_condition(rng, runs, rng.randrange(2, 12))
            tried = [some_words(rng, machine[0], runs, 4) for _ in range(6)]
            self.check(machine, condition, runs, tried)

    def test_each_line_in_each_other(self):
        tried = [[word] for word in words(2, 3, 3)]
        parts = [MARK, (*MARK, ("next", 0)), EVENTUALLY, (*MARK, ("not", 0)),
                 (*MARK, ("not", 0), ("next", 1), ("till", 0, 2)),
                 (*EVENTUALLY, ("next", 2), ("not", 3))]
        for first in parts:
            for name in ("not", "next"):
                self.check(SMALL, (*first, (name, len(first) - 1)), 1, tried)
            for second in parts:
                for name in ("both", "till"):
                    self.check(SMALL, together(name, first, second), 1, tried)

    def test_next_and_till_in_one_another(self):
        condition = (("mark", 0, 0), ("mark", 1, 0), ("next", 0), ("till", 2, 1), ("next", 3),
                     ("till", 4, 0), ("not", 5), ("till", 0, 6), ("next", 7))
        for end in range(1, len(condition) + 1):
            self.check(LARGE, condition[:end], 1, [[word] for word in words(4, 1, 3)])

    def test_two_runs(self):
        condition = (("same", 0, 1), ("next", 0), ("mark", 0, 0), ("mark", 0, 1), ("not", 3),
                     ("both", 2, 4), ("till", 1, 5), ("not", 6))
        pairs = [[one, two] for one in words(2, 1, 3) for two in words(2, 2, 2)]
        self.check(SMALL, condition, 2, pairs)

    def test_the_future_matters(self):
        # Till of tills: what a stretch says depends on what comes behind it.
        inner = (("mark", 0, 0), ("mark", 1, 0), ("till", 0, 1), ("till", 1, 0))
        for name in ("till", "both"):
            for first in (2, 3):
                for second in (2, 3):
                    condition = (*inner, (name, first, second), ("till", 2, 4), ("till", 5, 3))
                    self.check(LARGE, condition, 1, [[word] for word in words(4, 1, 3)])


class Limits(unittest.TestCase):
    def readers(self, parts):
        return [condition_reader(LARGE, part, 1) for part in parts]

    def check_made(self, condition):
        self.assertIs(is_condition(condition, 1), True)
        reader = condition_reader(LARGE, condition, 1)
        self.assertIsNone(fault(4, reader))
        self.assertEqual(least(reader), reader)
        rng = random.Random(71)
        for word in some_words(rng, 4, 60):
            row = says(LARGE, [word], condition)
            self.assertIs(accepts(reader, word), (row[0] + row[1])[0])

    def check_not_made(self, condition, machine=LARGE):
        self.assertIs(is_condition(condition, 1), True)
        with self.assertRaises(TooManyValues):
            condition_reader(machine, condition, 1)

    def test_next(self):
        self.assertEqual(len(next_values(condition_reader(LARGE, NEXT_300, 1))), 300)
        self.check_made((*NEXT_300, ("next", len(NEXT_300) - 1)))
        self.assertEqual(len(next_values(condition_reader(NESTED, NEXT_301, 1))), 301)
        self.check_not_made((*NEXT_301, ("next", len(NEXT_301) - 1)), NESTED)

    def test_till(self):
        self.assertEqual(len(till_values(*self.readers(TILL_300))), 300)
        self.check_made(together("till", *TILL_300))
        self.assertEqual(len(till_values(*self.readers(TILL_301))), 301)
        self.check_not_made(together("till", *TILL_301))

    def test_both(self):
        self.assertEqual(len(pair_values(*self.readers(BOTH_300))), 300)
        self.check_made(together("both", *BOTH_300))
        self.assertEqual(len(pair_values(*self.readers(BOTH_301))), 301)
        self.check_not_made(together("both", *BOTH_301))

    def test_lines_that_are_not_used_are_not_made(self):
        for unused in [together("till", *TILL_301), together("both", *BOTH_301)]:
            for behind in [(), (("not", len(unused) - 1),)]:
                self.assertEqual(condition_reader(LARGE, (*unused, *behind, ("yes",)), 1),
                                 condition_reader(LARGE, (("yes",),), 1))
            with self.assertRaises(TooManyValues):
                condition_reader(LARGE, (*unused, ("not", len(unused) - 1)), 1)

    def test_at_most_one_next_or_till(self):
        rng = random.Random(72)
        for at in range(300):
            machine = rng.choice([LARGE, (4, (0,), (), ((0,), (0, 1), (2,), (1, 3)))])
            runs = rng.choice([1, 2, 3, 3])
            names = ("not", "both", "both")
            before = some_condition(rng, runs, rng.randrange(2, 20), names)
            name = ("next", "till")[at % 2]
            named = [rng.randrange(len(before)) for _ in range(1 + at % 2)]
            behind = len(before) + 1
            condition = [*before, (name, *named)]
            for line in some_condition(rng, runs, rng.randrange(1, 20), names):
                if line[0] in ("not", "both"):
                    line = (line[0], *[rng.randrange(max(0, len(condition) - 6), len(condition))
                                       for _ in line[1:]])
                condition.append(line)
            condition.append(("both", rng.randrange(behind), len(condition) - 1))
            self.assertIs(is_condition(tuple(condition), runs), True)
            reader = condition_reader(machine, tuple(condition), runs)
            for _ in range(5):
                given = some_words(rng, 4, runs, 3)
                told = condition_holds(machine, given, condition, len(condition) - 1, 0)
                self.assertIs(accepts(reader, beside_each_other(given, 4)), told)


class Arguments(unittest.TestCase):
    def test_nothing_is_modified(self):
        given = [([0, 1], [1, 0]), ([], [1])]
        kept = copy.deepcopy(given)
        condition = (("same", 0, 1), ("next", 0), ("till", 0, 1))
        says(SMALL, given, condition)
        self.assertEqual(given, kept)

    def test_lists_are_new(self):
        given = [([0, 1], [1, 0])]
        for condition in [MARK, EVENTUALLY, (("yes",),), (*MARK, ("not", 0), ("not", 1))]:
            one = says(SMALL, given, condition)
            two = says(SMALL, given, condition)
            self.assertEqual(one, two)
            one[0].append(True)
            one[1].append(False)
            self.assertEqual(says(SMALL, given, condition), two)
            self.assertIsNot(one[0], two[0])
            self.assertIsNot(one[1], two[1])


if __name__ == "__main__":
    unittest.main()
