"""Points 17 to 22: formulas about sets of moments, and their readers."""

import random
import unittest
from itertools import product
from math import lcm

from helpers import OFTEN, pair_values
from unendtold.errors import TooManyValues
from unendtold.formulas import decide, depth_of, formula_reader, is_formula
from unendtold.readers import accepts, fault
from unendtold.values import denied, hidden, joint, least

# Some sets, as rows of False and True; enough to tell apart what is tested here.
SETS = [(list(before), list(again))
        for size in range(4) for before in product((False, True), repeat=size)
        for length in range(1, 4) for again in product((False, True), repeat=length)]

# Parts whose readers, about other sets, have 12 * 25 = 300 and 7 * 43 = 301 values together.
WITH_12 = (("set", 0), ("set", 1), ("step", 0, 1), ("step", 1, 0), ("both", 2, 3))
WITH_25 = (("set", 0), ("set", 1), ("not", 0), ("often", 0), ("step", 0, 1), ("both", 3, 4),
           ("denied", 5), ("step", 1, 2), ("both", 7, 6))
WITH_7 = (("set", 0), ("first", 0), ("set", 1), ("step", 2, 2), ("both", 3, 1))
WITH_43 = (("set", 0), ("not", 0), ("set", 1), ("step", 0, 1), ("denied", 3), ("step", 2, 1),
           ("denied", 5), ("both", 4, 6), ("step", 0, 2), ("both", 7, 8))


def moments(sets):
    """How many moments some sets have until they come again, and where they go on then."""
    start = max((len(before) for before, _ in sets), default=0)
    return start + lcm(*[len(again) for _, again in sets]), start


def is_in(one, moment):
    before, again = one
    if moment < len(before):
        return before[moment]
    return again[(moment - len(before)) % len(again)]


def holds_at(formula, number, sets, moment):
    """What a line about one moment says of sets."""
    name, *named = formula[number]
    if name == "set":
        return named[0] < len(sets) and is_in(sets[named[0]], moment)
    told = [holds_at(formula, c, sets, moment) for c in named]
    return not told[0] if name == "not" else told[0] and told[1]


def holds(formula, number, sets):
    """What a line about all moments says of sets; for `there`, SETS are tried."""
    name, *named = formula[number]
    if name == "denied":
        return not holds(formula, named[0], sets)
    if name == "both":
        return holds(formula, named[0], sets) and holds(formula, named[1], sets)
    if name == "there":
        return any(holds(formula, named[0], sets + [one]) for one in SETS)
    end, start = moments(sets)
    told = [[holds_at(formula, c, sets, t) for t in range(end + 1)] for c in named]
    if name == "all":
        return all(told[0])
    if name == "first":
        return told[0][0]
    if name == "often":
        return any(told[0][start:end])
    return all(told[1][t + 1] for t in range(end) if told[0][t])


def word_of(sets):
    """The word of some sets."""
    end, start = moments(sets)
    row = [sum(2 ** i for i, one in enumerate(sets) if is_in(one, t)) for t in range(end)]
    return (row[:start], row[start:])


def some_formula(rng, count, most_lines):
    """Some formula about all moments, and the depth that its last line has at most."""
    about = []
    lines = []
    while not about or about[-1] == "moment" or len(lines) < most_lines:
        here = [at for at, kind in enumerate(about) if kind == "moment"][-5:]
        whole = [at for at, kind in enumerate(about) if kind == "whole"][-4:]
        names = ["set", "set"] + (["not", "and", "all", "first", "often", "step", "step"] if here else [])
        name = rng.choice(names + (["denied", "both", "both", "there"] if whole else []))
        many = 2 if name in ("and", "step", "both") else 1
        named = [rng.randrange(count) if name == "set" else
                 rng.choice(whole if name in ("denied", "both", "there") else here)
                 for _ in range(many)]
        lines.append((name, *named))
        about.append("moment" if name in ("set", "not", "and") else "whole")
    return tuple(lines)


def beside(first, second):
    """Two formulas about the sets 0 and 1, the second one made to be about 2 and 3."""
    shift = len(first)
    moved = [(line[0], line[1] + 2) if line[0] == "set" else
             (line[0], *[number + shift for number in line[1:]]) for line in second]
    return (*first, *moved, ("both", shift - 1, shift + len(second) - 1))


class IsFormula(unittest.TestCase):
    RIGHT = (("set", 4), ("set", 0), ("not", 0), ("and", 1, 2), ("all", 3), ("first", 0),
             ("often", 2), ("step", 3, 1), ("denied", 7), ("both", 4, 8), ("there", 9))

    def test_right_ones(self):
        for end in range(5, len(self.RIGHT) + 1):
            self.assertIs(is_formula(self.RIGHT[:end]), True, end)
        self.assertIs(is_formula((("set", 0), ("all", 0))), True)
        self.assertIs(is_formula((("set", 3), ("all", 0), ("both", 1, 1))), True)
        self.assertIs(is_formula((("set", 0), ("and", 0, 0), ("step", 1, 1))), True)

    def test_numbers_of_lines(self):
        self.assertIs(is_formula(()), False)
        lines = (("set", 0),) * 59
        self.assertIs(is_formula(lines + (("all", 58),)), True)
        self.assertIs(is_formula(lines + (("set", 0), ("all", 58))), False)
        self.assertIs(is_formula((("set", 0), ("all", 0)) * 30), True)
        self.assertIs(is_formula((("set", 0), ("all", 0)) * 31), False)

    def test_last_line_about_one_moment(self):
        for line in [("set", 0), ("not", 0), ("and", 0, 0)]:
            self.assertIs(is_formula((("set", 0), ("all", 0), line)), False)
            self.assertIs(is_formula((("set", 0), line, ("all", 1))), True)
        self.assertIs(is_formula((("set", 0),)), False)

    def check_wrong(self, line):
        for formula in [self.RIGHT[:10] + (line,), self.RIGHT[:10] + (line, self.RIGHT[9])]:
            self.assertIs(is_formula(formula), False, formula)

    def test_names(self):
        for name in ["", "Set", "yes", "till", "or", "some", "all ", "moment", "whole", "next"]:
            self.check_wrong((name, 0))
            self.check_wrong((name, 4))
            self.check_wrong((name,))
            self.check_wrong((name, 4, 4))
        self.check_wrong(())
        self.assertIs(is_formula(((),)), False)

    def test_members_too_many_or_too_few(self):
        for name in ["set", "not", "all", "first", "often"]:
            for line in [(name,), (name, 0, 0), (name, 0, 0, 0), (name, 0, 4)]:
                self.check_wrong(line)
        for name in ["denied", "there"]:
            for line in [(name,), (name, 4, 4), (name, 4, 0)]:
                self.check_wrong(line)
        for name in ["and", "step"]:
            for line in [(name,), (name, 0), (name, 0, 0, 0)]:
                self.check_wrong(line)
        for line in [("both",), ("both", 4), ("both", 4, 4, 4)]:
            self.check_wrong(line)

    def test_lines_that_are_not_earlier(self):
        for number in [10, 11, 12, 60, -1, -5, -7, -11]:
            for name in ["not", "all", "first", "often", "denied", "there"]:
                self.check_wrong((name, number))
            for name, right in [("and", 0), ("step", 0), ("both", 4)]:
                self.check_wrong((name, number, right))
                self.check_wrong((name, right, number))
        self.assertIs(is_formula((("all", 0),)), False)
        self.assertIs(is_formula((("set", 0), ("all", 1))), False)
        self.assertIs(is_formula((("set", 0), ("all", 2), ("set", 0), ("all", 0))), False)

    def test_lines_of_the_wrong_kind(self):
        for number in range(4, 10):
            for name in ["not", "all", "first", "often"]:
                self.check_wrong((name, number))
            for name in ["and", "step"]:
                self.check_wrong((name, number, 0))
                self.check_wrong((name, 0, number))
        for number in range(4):
            self.check_wrong(("denied", number))
            self.check_wrong(("there", number))
            self.check_wrong(("both", 4, number))
            self.check_wrong(("both", number, 4))

    def test_numbers_of_sets(self):
        for number in [5, 6, 64, -1, -4]:
            self.check_wrong(("set", number))
            self.assertIs(is_formula((("set", number), ("all", 0))), False)
        for number in range(5):
            self.assertIs(is_formula((("set", number), ("all", 0))), True)


class DepthOf(unittest.TestCase):
    def test_line_by_line(self):
        formula = (("set", 0), ("not", 0), ("and", 0, 1), ("all", 2), ("there", 3), ("first", 0),
                   ("there", 4), ("both", 5, 6), ("both", 6, 4), ("denied", 8), ("there", 9),
                   ("step", 0, 0), ("often", 1), ("both", 12, 11))
        wanted = [0, 0, 0, 0, 1, 0, 2, 2, 2, 2, 3, 0, 0, 0]
        self.assertEqual([depth_of(formula, at) for at in range(len(formula))], wanted)

    def test_lines_that_are_not_used_do_not_count(self):
        formula = (("set", 0), ("all", 0), ("there", 1), ("there", 2), ("denied", 1))
        self.assertEqual(depth_of(formula, 4), 0)
        self.assertEqual(depth_of(formula, 3), 2)

    def test_both_ways_of_a_line(self):
        formula = [("set", 0), ("all", 0)]
        for at in range(1, 58):
            formula.append(("both", at, at))
        self.assertEqual(depth_of(tuple(formula), 58), 0)
        formula[30] = ("there", 29)
        self.assertEqual(depth_of(tuple(formula), 58), 1)

    def test_a_long_formula(self):
        formula = [("set", 0), ("all", 0)] + [("there", at) for at in range(1, 4000)]
        self.assertEqual(depth_of(tuple(formula), 4000), 3999)


class Lines(unittest.TestCase):
    """The reader of each line about all moments."""

    def check(self, lines, sets, reader):
        self.assertEqual(formula_reader(lines, sets), reader)

    def test_the_example_of_the_document(self):
        self.check((("set", 0), ("often", 0)), 1, OFTEN)

    def test_all(self):
        self.check((("set", 0), ("all", 0)), 1, ((0, 1), ((0, 0), (0, 1)), ((1, 1),)))
        self.check((("set", 0), ("not", 0), ("all", 1)), 1, ((0, 1), ((0, 1), (1, 1)), ((0, 0),)))
        self.check((("set", 0), ("set", 1), ("and", 0, 1), ("all", 2)), 2,
                   ((0, 0, 0, 1), ((0, 0), (0, 1)), ((1, 1),)))

    def test_first(self):
        self.check((("set", 0), ("first", 0)), 1,
                   ((0, 1), ((0, 0), (1, 1)), ((1, 0), (1, 1))))
        self.check((("set", 1), ("first", 0)), 2,
                   ((0, 0, 1, 1), ((0, 0), (1, 1)), ((1, 0), (1, 1))))

    def test_often(self):
        self.check((("set", 1), ("not", 0), ("often", 1)), 2,
                   ((0, 0, 1, 1), ((0, 0), (0, 1)), ((0, 0),)))

    def test_step(self):
        # The values: 0; 1; 01; 10, which is broken.
        self.check((("set", 0), ("step", 0, 0)), 1, (
            (0, 1), ((0, 2, 2, 3), (3, 1, 3, 3), (3, 2, 3, 3), (3, 3, 3, 3)),
            ((0, 0), (1, 1), (2, 1))))

    def test_what_never_or_always_holds(self):
        one_value = ((0,) * 2, ((0,),))
        formula = (("set", 0), ("not", 0), ("and", 0, 1), ("all", 2), ("denied", 3))
        self.check(formula[:4], 1, (*one_value, ()))
        self.check(formula, 1, (*one_value, ((0, 0),)))

    def test_no_given_sets(self):
        self.check((("set", 0), ("all", 0)), 0, ((0,), ((0,),), ()))
        self.check((("set", 0), ("not", 0), ("all", 1)), 0, ((0,), ((0,),), ((0, 0),)))

    def test_made_part_by_part(self):
        formula = (("set", 0), ("set", 1), ("step", 0, 1), ("often", 0), ("denied", 3),
                   ("both", 2, 4), ("there", 5))
        step, often = [formula_reader(formula[:at], 2) for at in (3, 4)]
        never = formula_reader(formula[:5], 2)
        self.assertEqual(never, least(denied(often)))
        both = formula_reader(formula[:6], 2)
        self.assertEqual(both, least(joint("both", step, never)))
        self.assertEqual(formula_reader(formula, 1), least(hidden(both, [0, 1, 0, 1], 2)))


class Sets(unittest.TestCase):
    """Which set a number means."""

    def check(self, lines, sets, wanted):
        self.assertEqual(formula_reader(lines, sets), formula_reader(wanted, sets))

    def test_empty_ones(self):
        for number in range(5):
            for sets in range(number + 1):
                formula = (("set", number), ("not", 0), ("all", 1))
                self.check(formula, sets, (("set", 0), ("all", 0), ("denied", 1), ("both", 1, 2),
                                           ("denied", 3)))
                self.check(formula[:1] + (("often", 0),), sets, (
                    ("set", 0), ("not", 0), ("and", 0, 1), ("often", 2)))

    def test_a_set_is_empty_outside_of_its_there(self):
        # The set 1 is that of the there inside of it, and empty beside it.
        formula = (("set", 1), ("often", 0), ("there", 1), ("denied", 1), ("both", 2, 3))
        self.assertEqual(formula_reader(formula, 1), ((0, 0), ((0,),), ((0, 0),)))
        # Around two of them, what is in the set 2 is not in the set 1.
        formula = (("set", 1), ("set", 2), ("not", 1), ("and", 0, 2), ("all", 3), ("there", 4),
                   ("there", 5))
        self.assertEqual(formula_reader(formula, 1), ((0, 0), ((0,),), ((0, 0),)))

    def test_lines_used_at_several_depths(self):
        # With the set 0 given, "set 1 often" is read with one and with two sets.
        formula = (("set", 1), ("often", 0), ("denied", 1), ("there", 1), ("both", 2, 3),
                   ("set", 0), ("often", 5), ("both", 4, 6))
        self.assertEqual(formula_reader(formula, 1), OFTEN)
        # "the set 0 is the set 1" is read with two sets: the given ones, or one and a there.
        same = (("set", 0), ("set", 1), ("not", 0), ("not", 1), ("and", 0, 3), ("and", 2, 1),
                ("not", 4), ("not", 5), ("and", 6, 7), ("all", 8))
        self.check(same + (("there", 9),), 1, (("set", 0), ("often", 0), ("denied", 1),
                                               ("both", 1, 2), ("denied", 3)))
        empty = (("set", 0), ("not", 0), ("all", 1))
        self.check(same, 1, empty)
        self.check(same + (("there", 9), ("both", 9, 10)), 1, empty)

    def test_the_set_of_a_there_inside_others(self):
        # There is a set, the number 1, in which each moment follows one of the set 0, and
        # there is one more, the number 2, that has one moment that is in the set 1.
        formula = (("set", 0), ("set", 1), ("set", 2), ("step", 1, 1), ("not", 1),
                   ("first", 4), ("and", 1, 2), ("often", 6), ("there", 7), ("not", 0),
                   ("step", 9, 4), ("both", 5, 10), ("both", 11, 8), ("there", 12))
        for word, told in [(([], [0]), False), (([], [1]), True), (([1, 1, 1], [0]), False),
                           (([0, 0], [1, 0]), True)]:
            self.assertIs(accepts(formula_reader(formula, 1), word), told, word)

    def test_there_lines_beside_each_other_have_the_same_number(self):
        formula = (("set", 0), ("all", 0), ("there", 1), ("not", 0), ("all", 3), ("there", 4),
                   ("both", 2, 5), ("set", 1), ("often", 7), ("there", 8), ("both", 6, 9))
        self.assertIs(decide(formula[:7]), True)
        self.assertIs(decide(formula), False)

    def test_five_sets_in_all(self):
        for number in range(5):
            formula = [("set", number), ("all", 0)] + [("there", at) for at in range(1, 5)]
            reader = formula_reader(tuple(formula), 1)
            if number == 0:
                self.assertEqual(reader, formula_reader(tuple(formula[:2]), 1))
            else:
                self.assertEqual(reader, ((0, 0), ((0,),), ((0, 0),)))


class WhatTheyMean(unittest.TestCase):
    def check_formula(self, rng, formula, sets, many):
        reader = formula_reader(formula, sets)
        self.assertIsNone(fault(2 ** sets, reader))
        self.assertEqual(least(reader), reader)
        for _ in range(many):
            given = [rng.choice(SETS) for _ in range(sets)]
            self.assertIs(accepts(reader, word_of(given)), holds(formula, len(formula) - 1, given),
                          (formula, given))
        if sets == 0:
            self.assertIs(decide(formula), holds(formula, len(formula) - 1, []), formula)

    def check_some(self, seed, many, sets, depth, lines, tries):
        rng = random.Random(seed)
        while many > 0:
            formula = some_formula(rng, sets + depth + 1, rng.randrange(*lines))
            if depth_of(formula, len(formula) - 1) == depth:
                self.assertIs(is_formula(formula), True)
                self.check_formula(rng, formula, sets, tries)
                many -= 1

    def test_without_there(self):
        self.check_some(31, 100, 1, 0, (3, 14), 8)
        self.check_some(32, 100, 2, 0, (4, 16), 8)
        self.check_some(33, 40, 3, 0, (5, 16), 8)

    def test_with_one_there(self):
        self.check_some(34, 60, 0, 1, (3, 14), 1)
        self.check_some(35, 60, 1, 1, (4, 15), 4)
        self.check_some(36, 20, 2, 1, (6, 16), 2)

    def test_with_two(self):
        self.check_some(37, 25, 0, 2, (4, 14), 1)
        self.check_some(38, 15, 1, 2, (6, 15), 1)

    def test_steps_and_moments(self):
        # The moments of a set that has 0, and just every second one.
        even = (("set", 0), ("not", 0), ("first", 0), ("step", 0, 1), ("step", 1, 0),
                ("both", 3, 4), ("both", 2, 5))
        reader = formula_reader(even, 1)
        for word, told in [(([], [1, 0]), True), (([1], [0, 1]), True), (([], [0, 1]), False),
                           (([], [1]), False), (([1, 0, 1], [1, 0]), False)]:
            self.assertIs(accepts(reader, word), told)
        # There is one set of these moments, and it is the only one.
        self.assertIs(decide((*even, ("there", 6))), True)
        inner = tuple((line[0], 1) if line[0] == "set" else
                      (line[0], *[n + 7 for n in line[1:]]) for line in even)
        other = (*even, *inner, ("not", 7), ("and", 0, 14), ("often", 15), ("both", 6, 13),
                 ("both", 17, 16), ("there", 18), ("there", 19))
        self.assertIs(is_formula(other), True)
        self.assertIs(decide(other), False)


class Limits(unittest.TestCase):
    def parts(self, first, second):
        one = formula_reader(beside(first, second)[:len(first)], 4)
        moved = beside(first, second)[len(first):-1]
        two = tuple(line if line[0] == "set" else
                    (line[0], *[n - len(first) for n in line[1:]]) for line in moved)
        return pair_values(one, formula_reader(two, 4))

    def test_300_values(self):
        self.assertEqual(len(self.parts(WITH_12, WITH_25)), 300)
        formula = beside(WITH_12, WITH_25)
        self.assertIs(is_formula(formula), True)
        reader = formula_reader(formula, 4)
        self.assertIsNone(fault(16, reader))
        self.assertEqual(least(reader), reader)
        self.assertLess(len(reader[1]), 300)

    def test_301_values(self):
        self.assertEqual(len(self.parts(WITH_7, WITH_43)), 301)
        formula = beside(WITH_7, WITH_43)
        self.assertIs(is_formula(formula), True)
        with self.assertRaises(TooManyValues):
            formula_reader(formula, 4)
        with self.assertRaises(TooManyValues):
            formula_reader((*formula, ("denied", len(formula) - 1)), 4)

    def test_decide(self):
        formula = beside(WITH_7, WITH_43)
        for at in range(4):
            formula = (*formula, ("there", len(formula) - 1))
        with self.assertRaises(TooManyValues):
            decide(formula)

    def test_lines_are_read_with_the_sets_around_them_alone(self):
        # Without sets the long formula has one letter, beside a line with four sets.
        formula = beside(WITH_7, WITH_43)
        end = len(formula)
        deep = (*formula, ("often", 0), ("there", end), ("there", end + 1), ("there", end + 2),
                ("there", end + 3), ("denied", end - 1), ("both", end + 5, end + 4))
        self.assertEqual(depth_of(deep, len(deep) - 1), 4)
        self.assertIs(decide(deep), True)
        self.assertIs(decide(deep[:-1]), True)

    def test_lines_that_are_not_used_are_not_made(self):
        formula = beside(WITH_7, WITH_43)
        self.assertEqual(formula_reader((*formula, ("often", 0)), 1), OFTEN)
        self.assertEqual(formula_reader((*formula, ("often", 0)), 4),
                         formula_reader((("set", 0), ("often", 0)), 4))
        self.assertIs(decide((*formula, ("often", 0), ("denied", len(formula)))), True)


if __name__ == "__main__":
    unittest.main()
