"""Points 25 and 31 to 37: machines, their runs, and sentences that compare runs."""

import copy
import random
import unittest
from itertools import product

from helpers import (Search, beside_each_other, condition_holds, is_a_run, letter_of, runs_of,
                     some_condition, some_machine, some_words, ways_of, ways_values, words)
from unendtold.conditions import condition_reader
from unendtold.errors import TooManyValues
from unendtold.notation import parse_condition
from unendtold.readers import accepts, fault
from unendtold.runs import Ways, answer, decide, is_machine, is_run, is_sentence
from unendtold.values import denied, least
from unendtold.words import shortest

FREE = (2, (0, 1), ((0, 0), (0, 1), (1, 0), (1, 1)), ((), (0,)))
# From 0 to 1 at some time or never, and never back.
ONCE = (2, (0,), ((0, 0), (0, 1), (1, 1)), ((), (0,)))
CIRCLE = (3, (0,), ((0, 1), (1, 2), (2, 0)), ((0,), (), (1,)))
# Without first states, without steps, and with walks that end after some steps.
WITHOUT_RUNS = ((2, (), ((0, 0), (0, 1), (1, 1)), ((), (0,))), (1, (0,), (), ((0,),)),
                (4, (0, 1), ((0, 1), (0, 2), (1, 2), (2, 3)), ((0,), (), (0,), ())))

ORDERS = [order for many in range(4) for order in product(("all", "some"), repeat=many)]
OTHER = {"all": "some", "some": "all"}

# How many values the ways have, and behind how many quantifiers; the machine, the last
# quantifiers, which these ways are made with, and the condition (found by trying).
COUNTED = (
    (300, 1, (4, (0, 3), ((0, 1), (0, 3), (1, 0), (2, 0), (2, 2), (3, 1)),
              ((), (0, 3), (2, 3), (1, 2))), ("all",), "next next same 0 1"),
    (301, 1, (4, (1,), ((0, 0), (1, 3), (2, 1), (2, 2), (2, 3), (3, 2), (3, 3)),
              ((3,), (0, 1, 2), (), (0,))), ("all",), "next till not same 0 1 mark 1 1"),
    (300, 2, (4, (1, 3), ((1, 2), (2, 1), (2, 3), (3, 1)), ((0,), (1, 3), (), (3,))), ("some",),
     "next next same 0 2"),
    (301, 2, (4, (3,), ((0, 0), (1, 2), (1, 3), (2, 1), (3, 0), (3, 3)),
              ((1, 2), (1, 2), (0, 1, 2), ())), ("some",), "till same 0 1 same 1 2"),
    (300, 1, (4, (2,), ((0, 2), (0, 3), (2, 0), (3, 2)), ((), (0, 2), (1,), (2, 3))),
     ("some", "all"), "next next same 0 1"),
    (301, 1, (4, (1, 3), ((0, 1), (0, 2), (1, 0), (1, 1), (1, 3), (2, 1), (3, 0), (3, 1)),
              ((2, 3), (0, 2), (1, 2, 3), (0, 1))), ("all", "some"), "next till same 0 2 same 0 1"),
)


def sentence(order, text):
    return (order, parse_condition(len(order), text))


def left_of(machine, name, reader):
    """The reader of what is left with one quantifier more in front, by point 33."""
    if name == "some":
        return least(ways_of(machine, reader))
    return denied(least(ways_of(machine, denied(reader))))


def behind(machine, told, many):
    """The reader of what is left of a sentence behind so many quantifiers."""
    order, condition = told
    reader = condition_reader(machine, condition, len(order))
    for name in reversed(order[many:]):
        reader = left_of(machine, name, reader)
    return reader


class IsMachine(unittest.TestCase):
    RIGHT = (3, (0, 2), ((0, 0), (0, 2), (1, 0), (2, 1)), ((0, 3), (), (1, 2)))

    def with_one(self, at, member):
        return self.RIGHT[:at] + (member,) + self.RIGHT[at + 1:]

    def check(self, at, member, told):
        self.assertIs(is_machine(self.with_one(at, member)), told, (at, member))

    def test_right_ones(self):
        for machine in (self.RIGHT, FREE, ONCE, CIRCLE, *WITHOUT_RUNS):
            self.assertIs(is_machine(machine), True)
        self.assertIs(is_machine((1, (), (), ((),))), True)

    def test_numbers_of_states(self):
        for states in range(-2, 8):
            for first in [(), (0,)]:
                self.assertIs(is_machine((states, first, (), ((),) * states)), 1 <= states <= 4)
        self.assertIs(is_machine((0, (), (), ())), False)
        self.assertIs(is_machine((-1, (), (), ())), False)
        self.assertIs(is_machine((10 ** 9, (), (), ())), False)
        self.assertIs(is_machine((4, (0, 1, 2, 3), tuple(product(range(4), repeat=2)),
                                  ((0, 1, 2, 3),) * 4)), True)

    def test_first_states(self):
        for firsts in [(), (0,), (1,), (2,), (0, 1), (1, 2), (0, 1, 2)]:
            self.check(1, firsts, True)
        for firsts in [(1, 0), (2, 0), (0, 2, 1), (0, 0), (1, 1, 2), (0, 1, 1), (-1,), (-1, 0), (3,),
                       (0, 3), (0, 1, 2, 3), (99,)]:
            self.check(1, firsts, False)

    def test_steps(self):
        for steps in [(), ((2, 2),), ((0, 1), (0, 2), (1, 0)), ((0, 2), (1, 0))]:
            self.check(2, steps, True)
        for steps in [((0, 1), (0, 0)), ((1, 0), (0, 2)), ((0, 0), (0, 0)), ((0, 1), (1, 2), (1, 2)),
                      ((0, 0), (2, 2), (1, 1)), ((-1, 0),), ((0, -1),), ((3, 0),), ((0, 3),),
                      ((0, 0), (0, 3)), ((0, 0), (3, 0)), ((2, 99),)]:
            self.check(2, steps, False)

    def test_marks(self):
        for marks in [((), (), ()), ((0, 1, 2, 3), (3,), (1, 3)), ((0,), (0,), (0,))]:
            self.check(3, marks, True)
        for wrong in [(1, 0), (3, 2), (0, 2, 1), (0, 0), (1, 2, 2), (-1,), (-1, 0), (4,), (3, 4), (0, 99)]:
            for at in range(3):
                self.check(3, ((),) * at + (wrong,) + ((),) * (2 - at), False)

    def test_as_many_tuples_of_marks_as_states(self):
        for many in range(7):
            self.check(3, ((),) * many, many == 3)
            self.check(3, ((0, 1),) * many, many == 3)


class IsRun(unittest.TestCase):
    def check(self, machine, word, told):
        self.assertIs(is_run(machine, word), told, (machine, word))

    def test_right_ones(self):
        for word in [([], [0, 1, 2]), ([0], [1, 2, 0]), ([0, 1, 2, 0, 1], [2, 0, 1]), ([], [0, 1, 2] * 9)]:
            self.check(CIRCLE, word, True)
        for word in [([], [0]), ([0], [1]), ([], [0, 0]), ([0, 0, 1], [1, 1])]:
            self.check(ONCE, word, True)

    def test_first_state(self):
        for word in [([], [1, 2, 0]), ([2], [0, 1, 2]), ([1, 2], [0, 1, 2])]:
            self.check(CIRCLE, word, False)
        self.check(ONCE, ([], [1]), False)
        self.check(ONCE, ([1], [1]), False)
        self.check((3, (1, 2), ((0, 0), (1, 1), (2, 2)), ((),) * 3), ([], [2]), True)
        self.check((3, (1, 2), ((0, 0), (1, 1), (2, 2)), ((),) * 3), ([], [0]), False)

    def test_a_step_in_the_beginning(self):
        for word in [([0, 2, 0], [1, 2, 0]), ([0, 1, 0], [1, 2, 0]), ([0, 0], [1, 2, 0]),
                     ([0, 1, 2, 1], [2, 0, 1])]:
            self.check(CIRCLE, word, False)

    def test_the_step_into_the_round(self):
        for word in [([0], [0, 1, 2]), ([0], [2, 0, 1]), ([0, 1], [1, 2, 0]), ([0, 1], [0, 1, 2])]:
            self.check(CIRCLE, word, False)

    def test_a_step_in_the_round(self):
        for word in [([], [0, 2, 1, 2]), ([], [0, 1, 1, 2]), ([0], [1, 2, 2, 0]), ([], [0, 1, 2, 1, 2])]:
            self.check(CIRCLE, word, False)

    def test_the_step_from_the_end_to_the_start(self):
        for word in [([], [0]), ([], [0, 1]), ([], [0, 1, 2, 0]), ([0], [1]), ([0], [1, 2]), ([0, 1], [2])]:
            self.check(CIRCLE, word, False)
        # The round goes back to its own start, not to that of the beginning.
        self.check(ONCE, ([0], [0, 1]), False)
        self.check((3, (0,), ((0, 1), (1, 2), (2, 1)), ((),) * 3), ([0], [1, 2]), True)
        self.check((3, (0,), ((0, 1), (1, 2), (2, 0)), ((),) * 3), ([0], [1, 2]), False)

    def test_machines_without_runs(self):
        for machine in WITHOUT_RUNS:
            for word in words(machine[0], 2, 3):
                self.check(machine, word, False)

    def test_held_against_moments(self):
        rng = random.Random(11)
        found = 0
        for _ in range(300):
            machine = some_machine(rng)
            for word in words(machine[0], 1, 2) + some_words(rng, machine[0], 20, 4):
                found += is_a_run(machine, word)
                self.check(machine, word, is_a_run(machine, word))
        self.assertGreater(found, 500)


class IsSentence(unittest.TestCase):
    def test_so_many_quantifiers(self):
        for order in ORDERS:
            self.assertIs(is_sentence((order, (("yes",),))), True)
            if order:
                self.assertIs(is_sentence((order, (("mark", 3, len(order) - 1),))), True)
        for many in (4, 5, 60):
            for name in ("all", "some"):
                self.assertIs(is_sentence(((name,) * many, (("yes",),))), False)

    def test_other_strings(self):
        for name in ["", "All", "SOME", "every", "exists", "no", "not", "all ", "both", "a", "l", "som"]:
            self.assertIs(is_sentence(((name,), (("yes",),))), False)
            for at in range(3):
                order = ("all",) * at + (name,) + ("some",) * (2 - at)
                self.assertIs(is_sentence((order, (("yes",),))), False)

    def test_conditions_about_so_many_runs(self):
        for order in ORDERS:
            for k in range(-1, 5):
                told = 0 <= k < len(order)
                for line in [("mark", 0, k), ("same", k, k), ("same", 0, k), ("same", k, 0)]:
                    self.assertIs(is_sentence((order, (line,))), told, (order, line))

    def test_wrong_conditions(self):
        for order in ORDERS:
            for condition in [(), ((),), (("no",),), (("not", 0),), (("mark", 4, 0),), (("mark", -1, 0),),
                              (("yes", 0),), (("yes",), ("next", 1)), (("yes",), ("till", 0)),
                              (("yes",), ("set", 0)), (("yes",),) * 61]:
                self.assertIs(is_sentence((order, condition)), False, (order, condition))
            self.assertIs(is_sentence((order, (("yes",),) * 60)), True)


class ByHand(unittest.TestCase):
    def check(self, machine, order, text, told):
        self.assertIs(decide(machine, sentence(order, text)), told, (machine, order, text))

    def test_no_quantifier(self):
        for machine in (FREE, ONCE, CIRCLE, *WITHOUT_RUNS):
            for text, told in [("yes", True), ("not yes", False), ("next yes", True),
                               ("till yes yes", True), ("till yes not yes", False)]:
                self.check(machine, (), text, told)

    def test_one_quantifier(self):
        for machine, text, every, some in [
                (ONCE, "till yes mark 0 0", False, True), (ONCE, "not mark 0 0", True, True),
                (ONCE, "mark 0 0", False, False), (ONCE, "not till yes mark 0 0", False, True),
                # Once the mark 0 is there, it stays.
                (ONCE, "not till yes both mark 0 0 next not mark 0 0", True, True),
                (FREE, "till yes both mark 0 0 next not mark 0 0", False, True),
                (CIRCLE, "mark 0 0", True, True), (CIRCLE, "next next mark 1 0", True, True),
                (CIRCLE, "till yes both mark 0 0 next mark 1 0", False, False)]:
            self.check(machine, ("all",), text, every)
            self.check(machine, ("some",), text, some)

    def test_two_quantifiers_in_every_order(self):
        always_same = "not till yes not same 0 1"
        never_same = "not till yes same 0 1"
        for machine, text, told in [
                (FREE, always_same, (False, True, False, True)),
                (FREE, never_same, (False, True, False, True)),
                (CIRCLE, always_same, (True, True, True, True)),
                (CIRCLE, never_same, (False, False, False, False)),
                # All of them begin alike, so none is different at every moment.
                (ONCE, never_same, (False, False, False, False)),
                # The run 1 has its mark at last, and the run 0 not before it.
                (ONCE, "till not mark 0 0 mark 0 1", (False, True, False, True)),
                # Never is the mark there without having been there in the run 1: some run 0
                # has none, and some run 1 has it from the moment 1 on.
                (ONCE, "not till yes both mark 0 0 not mark 0 1", (False, True, True, True))]:
            for order, wanted in zip(product(("all", "some"), repeat=2), told):
                self.check(machine, order, text, wanted)

    def test_the_quantifiers_have_their_order(self):
        # The run 0 goes to the state 1 before the run 1 does; or not after it.
        before = "till not mark 0 1 both mark 0 0 not mark 0 1"
        for order, told in [(("all", "all"), False), (("all", "some"), False),
                            (("some", "all"), False), (("some", "some"), True)]:
            self.check(ONCE, order, before, told)
        not_after = "till not mark 0 1 mark 0 0"
        for order, told in [(("all", "all"), False), (("all", "some"), False),
                            (("some", "all"), True), (("some", "some"), True)]:
            self.check(ONCE, order, not_after, told)

    def test_three_quantifiers(self):
        # At every moment, the run 1 has the mark just if the run 0 has it and the run 2 has not.
        one = "mark 0 1"
        two = "both mark 0 0 not mark 0 2"
        text = f"not till yes not not both not both {one} {two} not both not {one} not {two}"

        # In free runs each moment is by itself, so it is enough to look at one of them.
        def meant(order, bits):
            if not order:
                return bits[1] == (bits[0] and not bits[2])
            told = [meant(order[1:], (*bits, bit)) for bit in (False, True)]
            return all(told) if order[0] == "all" else any(told)

        for order in product(("all", "some"), repeat=3):
            self.check(FREE, order, text, meant(order, ()))
        self.check(FREE, ("all", "all", "all"), text, False)
        self.check(FREE, ("some", "some", "some"), text, True)

    def test_no_runs_at_all(self):
        for machine in WITHOUT_RUNS:
            for order in ORDERS[1:]:
                for text in ("yes", "not yes", "mark 0 0", "next mark 0 0", "till yes mark 0 0"):
                    self.check(machine, order, text, order[0] == "all")
                    self.assertEqual(answer(machine, sentence(order, text), []), (order[0] == "all", None))

    def test_walks_that_end_are_no_runs(self):
        # From the state 2 there is no step on.
        machine = (3, (0,), ((0, 1), (0, 2), (1, 1)), ((), (0,), (1,)))
        self.check(machine, ("some",), "next mark 1 0", False)
        self.check(machine, ("all",), "next mark 0 0", True)
        self.check(machine, ("all", "some"), "next same 0 1", True)
        self.check(machine, ("some", "some"), "next not same 0 1", False)

    def test_states_that_are_not_reached(self):
        machine = (3, (0,), ((0, 0), (1, 2), (2, 1), (2, 0)), ((), (0,), (0,)))
        self.check(machine, ("some",), "till yes mark 0 0", False)
        self.check(machine, ("all", "all"), "not till yes not same 0 1", True)


class Searched(unittest.TestCase):
    """Sentences held against runs that are looked for in a graph of what lines say."""

    MOST_TRIED = 6

    def exactly(self, machine, told, order, condition):
        """What a sentence means whose quantifiers that are left are of one kind."""
        some = order[:1] == ("some",)
        found = Search(machine, told, condition, len(order)).finds(some or not order)
        return found if some or not order else not found

    def check(self, rng, machine, given, told):
        """Checks the answer behind told runs, and all that it rests on; returns it."""
        order, condition = given
        left = order[len(told):]
        holds, run = answer(machine, given, told)
        if len(set(left)) < 2:
            self.assertIs(holds, self.exactly(machine, told, left, condition), (machine, given, told))
        if not left:
            self.assertIsNone(run)
            last = len(condition) - 1
            self.assertIs(holds, condition_holds(machine, told, condition, last, 0))
            return holds
        shown = (left[0] == "some") == holds
        self.assertIs(run is not None, shown, (machine, given, told))
        if shown:
            self.check_run(machine, run)
            self.assertIs(self.check(rng, machine, given, told + [run]), holds)
            return holds
        tried = runs_of(machine, 1, 2)
        for other in rng.sample(tried, min(len(tried), self.MOST_TRIED)):
            self.assertIs(self.check(rng, machine, given, told + [other]), holds,
                          (machine, given, told, other))
        return holds

    def check_run(self, machine, run):
        self.assertIs(type(run), tuple)
        self.assertEqual([type(row) for row in run], [list, list])
        self.assertTrue(run[1])
        self.assertTrue(is_a_run(machine, run))
        self.assertIs(is_run(machine, run), True)

    def check_all(self, rng, machine, given):
        self.assertIs(is_machine(machine), True)
        self.assertIs(is_sentence(given), True)
        holds = self.check(rng, machine, given, [])
        self.assertIs(decide(machine, given), holds)
        turned = (tuple(OTHER[name] for name in given[0]),
                  (*given[1], ("not", len(given[1]) - 1)))
        self.assertIs(decide(machine, turned), not holds)
        return holds

    def condition(self, rng, runs):
        """A condition that is not too long to search, about different runs if there are some."""
        while True:
            lines = some_condition(rng, runs, rng.randrange(2, 9))
            if sum(line[0] in ("next", "till") for line in lines) <= 2:
                return lines

    def test_every_order(self):
        rng = random.Random(21)
        for order in ORDERS:
            told = {True: 0, False: 0}
            for _ in range(40):
                machine = some_machine(rng, 4 if len(order) < 3 else 3)
                told[self.check_all(rng, machine, (order, self.condition(rng, len(order))))] += 1
            self.assertGreater(min(told.values()), 4, order)

    def test_machines_with_many_runs(self):
        rng = random.Random(22)
        for order in ORDERS[3:]:
            for _ in range(15):
                count = rng.randrange(2, 4)
                steps = tuple(step for step in product(range(count), repeat=2) if rng.random() < 0.8)
                marks = tuple((m,) if rng.random() < 0.7 else () for m in range(count))
                machine = (count, (0, 1), steps, marks)
                self.check_all(rng, machine, (order, self.condition(rng, len(order))))

    def test_that_runs_go_together(self):
        rng = random.Random(23)
        texts = ("till yes both mark 0 0 mark 0 1", "next till same 0 1 mark 0 0",
                 "not till yes not same 0 1", "till not same 0 1 both mark 0 1 next not mark 0 0",
                 "not till yes not till yes both mark 0 0 not mark 0 1")
        for text in texts:
            for order in ORDERS[3:7]:
                for machine in (FREE, ONCE, CIRCLE, some_machine(rng), some_machine(rng)):
                    self.check_all(rng, machine, sentence(order, text))


class Readers(unittest.TestCase):
    """The ways of a machine, and the readers of what is left of a sentence."""

    def check_ways(self, machine, reader):
        expected = ways_of(machine, reader)
        if len(expected[1]) > 300:
            with self.assertRaises(TooManyValues):
                Ways(machine, reader)
        else:
            self.assertEqual(Ways(machine, reader).reader, expected)

    def test_ways_by_hand(self):
        first = condition_reader(ONCE, (("mark", 0, 0),), 1)
        self.assertEqual(Ways(ONCE, first).reader, ((0,), ((0,),), ()))
        never = condition_reader(ONCE, parse_condition(1, "not till yes mark 0 0"), 1)
        self.assertEqual(Ways(ONCE, never).reader, ((0,), ((1, 1), (1, 1)), ((1, 1),)))

    def test_ways(self):
        rng = random.Random(31)
        for _ in range(120):
            machine = some_machine(rng)
            runs = rng.randrange(1, 4)
            condition = some_condition(rng, runs, rng.randrange(2, 7))
            reader = condition_reader(machine, condition, runs)
            if len(reader[1]) <= 30:
                self.check_ways(machine, reader)

    def test_told_runs_are_read_by_the_reader_behind_them(self):
        rng = random.Random(32)
        for order in ORDERS:
            for _ in range(8):
                machine = some_machine(rng, 3)
                given = (order, some_condition(rng, len(order), rng.randrange(2, 7)))
                runs = runs_of(machine, 1, 2)
                for many in range(len(order) + 1 if runs else 1):
                    reader = behind(machine, given, many)
                    self.assertIsNone(fault(machine[0] ** many, reader))
                    told = [rng.choice(runs) for _ in range(many)]
                    self.assertIs(answer(machine, given, told)[0],
                                  accepts(reader, beside_each_other(told, machine[0])))


class Limits(unittest.TestCase):
    def counts(self, machine, given):
        """How many values the ways have behind so many quantifiers, the last ones first."""
        order, condition = given
        reader = condition_reader(machine, condition, len(order))
        counts = []
        for name in reversed(order):
            counts.append(len(ways_values(machine, reader)))
            if counts[-1] > 300:
                return counts
            reader = left_of(machine, name, reader)
        return counts

    def test_ways_of_300_and_301_values(self):
        for many, left, machine, last, text in COUNTED:
            for order in product(("all", "some"), repeat=left):
                given = sentence((*order, *last), text)
                counts = self.counts(machine, given)
                self.assertEqual(counts[len(last) - 1], many, (machine, given))
                self.assertEqual(max(counts), many)
                runs = runs_of(machine, 2, 4)[:2]
                for told in range(len(order) + len(last) + 1):
                    for run in runs:
                        self.check(machine, given, [run] * told, many > 300 and told <= left)
                self.assertIs(self.raises(lambda: decide(machine, given)), many > 300)

    def check(self, machine, given, told, wanted):
        self.assertIs(self.raises(lambda: answer(machine, given, told)), wanted, (machine, given, told))

    def raises(self, call):
        try:
            call()
        except TooManyValues:
            return True
        return False

    def test_what_is_left_is_made_least(self):
        # If the ways were made with a reader that is not made least, they would have more values.
        for machine, order, text in [
                ((4, (3,), ((0, 1), (0, 2), (1, 1), (1, 2), (2, 0)), ((1,), (), (0, 1), (0,))),
                 ("all", "some", "some"), "till same 1 2 same 2 0"),
                ((3, (0,), ((0, 1), (0, 2), (1, 1), (1, 2), (2, 0)), ((1,), (0, 1, 2), (2,))),
                 ("some", "all", "all"), "till not same 2 0 mark 0 1")]:
            given = sentence(order, text)
            reader = condition_reader(machine, given[1], 3)
            ways = ways_of(machine, reader if order[2] == "some" else denied(reader))
            self.assertLessEqual(len(ways[1]), 300)
            self.assertGreater(len(ways_values(machine, ways)), 300)
            self.assertLessEqual(max(self.counts(machine, given)), 300)
            self.assertFalse(self.raises(lambda: decide(machine, given)))
            for told in range(3):
                self.check(machine, given, runs_of(machine, 2, 4)[:1] * told, False)

    def test_conditions_with_too_many_values(self):
        machine = (4, (0,), ((0, 1), (1, 2), (2, 3), (3, 0)), ((), (0,), (1,), (0, 1)))
        condition = (("mark", 0, 0), ("mark", 1, 0), ("till", 0, 1), ("next", 0), ("till", 2, 3),
                     ("not", 1), ("next", 5), ("next", 6), ("till", 7, 6), ("next", 8),
                     ("next", 9), ("till", 4, 10))
        self.assertTrue(self.raises(lambda: condition_reader(machine, condition, 1)))
        for order in (("all",), ("some",)):
            self.assertTrue(self.raises(lambda: decide(machine, (order, condition))))
            for told in ([], [([], [0, 1, 2, 3])]):
                self.check(machine, (order, condition), told, True)
            # A line that the last one does not use is not made.
            unused = (*condition, ("mark", 0, 0))
            self.assertIs(decide(machine, (order, unused)), False)
            self.check(machine, (order, unused), [], False)

    def test_machines_without_runs_raise_too(self):
        for many, left, machine, last, text in COUNTED[:4]:
            without = (machine[0], (), *machine[2:])
            given = sentence(("all",) * left + last, text)
            self.assertIs(self.raises(lambda: decide(without, given)), many > 300)
            self.check(without, given, [], many > 300)

    def test_what_is_made_without_the_error(self):
        rng = random.Random(41)
        for at in range(300):
            machine = some_machine(rng)
            runs = rng.randrange(4) if at % 2 else rng.randrange(2)
            order = tuple(rng.choice(["all", "some"]) for _ in range(runs))
            condition = list(some_condition(rng, runs, rng.randrange(2, 12), ("not", "both", "both")))
            if not at % 2:
                name = rng.choice(["next", "till"])
                condition.append((name, *[rng.randrange(len(condition)) for _ in range(1 + (name == "till"))]))
                condition.append(("both", rng.randrange(len(condition)), len(condition) - 1))
                condition.append(("not", len(condition) - 1))
            self.assertIs(is_sentence((order, tuple(condition))), True)
            decide(machine, (order, tuple(condition)))
            answer(machine, (order, tuple(condition)), [])


class Shown(unittest.TestCase):
    def test_by_hand(self):
        self.assertEqual(answer(ONCE, sentence(("all",), "till yes mark 0 0"), []), (False, ([], [0])))
        self.assertEqual(answer(ONCE, sentence(("some",), "next mark 0 0"), []), (True, ([0], [1])))
        self.assertEqual(answer(ONCE, sentence(("all",), "not mark 0 0"), []), (True, None))
        self.assertEqual(answer(ONCE, sentence(("some",), "mark 0 0"), []), (False, None))
        self.assertEqual(answer(CIRCLE, sentence(("some",), "mark 0 0"), []), (True, ([], [0, 1, 2])))

    def test_all_runs_told(self):
        given = sentence(("all", "some"), "till not mark 0 1 mark 0 0")
        one, two, never = ([0], [1]), ([0, 0], [1]), ([], [0])
        for told, holds in [([one, two], True), ([two, one], False), ([one, never], True),
                            ([never, one], False), ([never, never], False)]:
            self.assertEqual(answer(ONCE, given, told), (holds, None))
        self.assertEqual(answer(ONCE, sentence((), "yes"), []), (True, None))
        self.assertEqual(answer(ONCE, sentence((), "not yes"), []), (False, None))

    def test_some_runs_told(self):
        given = sentence(("all", "some"), "not till yes not same 0 1")
        for run in runs_of(FREE, 2, 3):
            holds, shown = answer(FREE, given, [run])
            self.assertIs(holds, True)
            self.assertTrue(all(letter_of(run, t) == letter_of(shown, t) for t in range(30)))
        given = sentence(("some", "all", "some"), "not till yes not both same 0 1 same 1 2")
        for run in runs_of(FREE, 1, 2):
            holds, shown = answer(FREE, given, [run])
            self.assertIs(holds, False)
            self.assertFalse(all(letter_of(run, t) == letter_of(shown, t) for t in range(30)))
            self.assertEqual(answer(FREE, given, [run, shown]), (False, None))
            self.assertEqual(answer(FREE, given, [run, run]), (True, shortest(run)))

    def test_long_told_runs(self):
        rng = random.Random(51)
        told = [([rng.randrange(2) for _ in range(60)], [rng.randrange(2) for _ in range(size)])
                for size in (59, 60)]
        order = ("all", "all", "some")
        one, two = [[letter_of(word, t) for t in range(60 + 59 * 60)] for word in told]
        for text, wanted in [
                ("not till yes not same 0 2", one), ("not till yes not same 1 2", two),
                ("not till yes not not both not both same 0 1 mark 0 2 not both not same 0 1 not mark 0 2",
                 [int(p == q) for p, q in zip(one, two)])]:
            holds, run = answer(FREE, sentence(order, text), told)
            self.assertIs(holds, True)
            self.assertIs(is_run(FREE, run), True)
            self.assertEqual([letter_of(run, t) for t in range(60 + 59 * 60)], wanted)
            self.assertEqual(answer(FREE, sentence(order, text), [*told, run]), (True, None))

    def test_runs_that_are_written_in_other_ways(self):
        rng = random.Random(52)
        for _ in range(40):
            machine = some_machine(rng, 3)
            given = (("all", "some"), some_condition(rng, 2, rng.randrange(3, 8)))
            for before, again in runs_of(machine, 1, 2)[:4]:
                other = (before + again + again[:1], again[1:] + again[:1] + again[1:] + again[:1])
                one, two = [answer(machine, given, [word]) for word in ((before, again), other)]
                self.assertIs(one[0], two[0])

    def test_a_shown_run_is_as_short_as_it_can_be_written(self):
        rng = random.Random(53)
        for _ in range(100):
            machine = some_machine(rng)
            given = (("some",), some_condition(rng, 1, rng.randrange(3, 9)))
            run = answer(machine, given, [])[1]
            if run is not None:
                self.assertEqual(run, shortest(run))


class Arguments(unittest.TestCase):
    def test_told_runs_stay_as_they_were(self):
        told = [([0, 0], [1]), ([0], [0, 0])]
        kept = copy.deepcopy(told)
        for many in range(3):
            for order in ORDERS[-8:]:
                given = sentence(order, "not till yes not both same 0 1 till yes mark 0 2")
                passed = told[:many]
                answer(ONCE, given, passed)
                self.assertEqual(passed, kept[:many])
                self.assertEqual(told, kept)
        word = ([0], [1, 1])
        is_run(ONCE, word)
        self.assertEqual(word, ([0], [1, 1]))

    def test_lists_are_new(self):
        for order in (("some",), ("some", "all")):
            given = sentence(order, "not till yes mark 0 0")
            one, two = answer(ONCE, given, [])[1], answer(ONCE, given, [])[1]
            self.assertEqual(one, two)
            one[0].append(1)
            one[1].append(1)
            self.assertEqual(answer(ONCE, given, [])[1], two)
        told = [([], [0])]
        shown = answer(ONCE, sentence(("some", "some"), "not till yes not same 0 1"), told)[1]
        self.assertEqual(shown, ([], [0]))
        shown[0].append(7)
        shown[1].append(7)
        self.assertEqual(told, [([], [0])])


if __name__ == "__main__":
    unittest.main()
