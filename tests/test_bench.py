"""Point 41: a workbench."""

import random
import unittest

from helpers import is_a_run, some_condition, some_machine
from unendtold.bench import Workbench
from unendtold.errors import NotFitting, TooManyValues, UnknownName
from unendtold.notation import parse_condition
from unendtold.runs import decide

ONCE = (2, (0,), ((0, 0), (0, 1), (1, 1)), ((), (0,)))
NEVER = (2, (0,), ((0, 0), (1, 1)), ((), (0,)))
FREE = (2, (0, 1), ((0, 0), (0, 1), (1, 0), (1, 1)), ((), (0,)))
CIRCLE = (4, (0,), ((0, 1), (1, 2), (2, 3), (3, 0)), ((), (0,), (1,), (0, 1)))

SOME = (("some",), parse_condition(1, "till yes mark 0 0"))
ALL = (("all",), parse_condition(1, "till yes mark 0 0"))
PAIR = (("all", "some"), parse_condition(2, "not till yes not same 0 1"))

# For CIRCLE, a reader that its condition is made with would have more than 300 values.
LARGE = (("some",), parse_condition(
    1, "till till till mark 0 0 mark 1 0 next mark 0 0 next next till next next not mark 1 0 next not mark 1 0"))

# Each of them is no machine.
WRONG = ((0, (), (), ()), (5, (), (), ((),) * 5), (2, (1, 0), (), ((), ())), (2, (2,), (), ((), ())),
         (2, (), ((0, 1), (0, 0)), ((), ())), (2, (), ((0, 2),), ((), ())), (2, (), (), ((),)),
         (2, (), (), ((), (4,))), (2, (), (), ((), (1, 0))))


class Case(unittest.TestCase):
    def assert_machine(self, bench, machine):
        self.assertEqual(bench.machine(), machine)
        self.assertIs(type(bench.machine()), tuple)

    def holds(self, bench, name, told, made):
        """Asks for an answer, and looks at how many were made then."""
        self.assertIs(bench.holds(name), told)
        self.assertEqual(bench.made(), made)


class Machines(Case):
    def test_made_with_a_machine(self):
        for machine in (ONCE, NEVER, FREE, CIRCLE, (1, (), (), ((),))):
            self.assert_machine(Workbench(machine), machine)

    def test_new(self):
        bench = Workbench(ONCE)
        self.assertEqual(bench.names(), [])
        self.assertEqual(bench.made(), 0)
        self.assertIs(bench.undo(), False)
        self.assertIs(bench.redo(), False)
        self.assert_machine(bench, ONCE)

    def test_made_with_no_machine(self):
        for machine in WRONG:
            with self.assertRaises(NotFitting):
                Workbench(machine)

    def test_change(self):
        bench = Workbench(ONCE)
        for machine in (FREE, CIRCLE, CIRCLE, ONCE):
            self.assertIsNone(bench.change(machine))
            self.assert_machine(bench, machine)

    def test_change_to_no_machine(self):
        bench = Workbench(ONCE)
        bench.change(FREE)
        bench.change(CIRCLE)
        bench.undo()
        for machine in WRONG:
            with self.assertRaises(NotFitting):
                bench.change(machine)
            self.assert_machine(bench, FREE)
        self.assertIs(bench.redo(), True)
        self.assert_machine(bench, CIRCLE)
        self.assertIs(bench.undo(), True)
        self.assertIs(bench.undo(), True)
        self.assert_machine(bench, ONCE)
        self.assertIs(bench.undo(), False)

    def test_turn_step(self):
        bench = Workbench(NEVER)
        self.assertIsNone(bench.turn_step(0, 1))
        self.assert_machine(bench, ONCE)
        self.assertIsNone(bench.turn_step(0, 1))
        self.assert_machine(bench, NEVER)
        for p, q, steps in [(1, 0, ((0, 0), (1, 0), (1, 1))), (0, 0, ((1, 0), (1, 1))),
                            (0, 1, ((0, 1), (1, 0), (1, 1))), (1, 1, ((0, 1), (1, 0))), (1, 0, ((0, 1),)),
                            (0, 1, ()), (1, 1, ((1, 1),)), (0, 0, ((0, 0), (1, 1)))]:
            bench.turn_step(p, q)
            self.assert_machine(bench, (2, (0,), steps, ((), (0,))))

    def test_turn_step_between_states_that_are_not_there(self):
        for machine in (ONCE, CIRCLE):
            bench = Workbench(machine)
            bench.turn_step(0, 0)
            turned = bench.machine()
            bench.undo()
            states = machine[0]
            for p, q in [(states, 0), (0, states), (-1, 0), (0, -1), (states, states), (-1, -1), (99, 0), (1, 99)]:
                with self.assertRaises(NotFitting):
                    bench.turn_step(p, q)
                self.assert_machine(bench, machine)
            self.assertIs(bench.undo(), False)
            self.assertIs(bench.redo(), True)
            self.assert_machine(bench, turned)


class UndoAndRedo(Case):
    def test_back_and_on(self):
        bench = Workbench(ONCE)
        bench.change(FREE)
        bench.turn_step(0, 1)
        turned = bench.machine()
        bench.change(CIRCLE)
        for machine in (turned, FREE, ONCE):
            self.assertIs(bench.undo(), True)
            self.assert_machine(bench, machine)
        self.assertIs(bench.undo(), False)
        self.assert_machine(bench, ONCE)
        for machine in (FREE, turned, CIRCLE):
            self.assertIs(bench.redo(), True)
            self.assert_machine(bench, machine)
        self.assertIs(bench.redo(), False)
        self.assert_machine(bench, CIRCLE)
        self.assertIs(bench.undo(), True)
        self.assert_machine(bench, turned)

    def test_an_equal_machine_is_a_change_too(self):
        bench = Workbench(ONCE)
        bench.change((2, (0,), ((0, 0), (0, 1), (1, 1)), ((), (0,))))
        bench.change(ONCE)
        self.assertEqual([bench.undo(), bench.undo(), bench.undo()], [True, True, False])
        self.assertEqual([bench.redo(), bench.redo(), bench.redo()], [True, True, False])
        bench.change(FREE)
        bench.undo()
        bench.change(ONCE)
        self.assertIs(bench.redo(), False)

    def test_a_change_discards_what_could_be_made_again(self):
        for change in (lambda bench: bench.change(CIRCLE), lambda bench: bench.turn_step(0, 1),
                       lambda bench: bench.change(bench.machine())):
            bench = Workbench(ONCE)
            bench.change(FREE)
            bench.change(NEVER)
            bench.undo()
            change(bench)
            machine = bench.machine()
            self.assertIs(bench.redo(), False)
            self.assert_machine(bench, machine)
            self.assertIs(bench.undo(), True)
            self.assert_machine(bench, FREE)
            self.assertIs(bench.redo(), True)
            self.assert_machine(bench, machine)
            self.assertEqual([bench.undo(), bench.undo(), bench.undo()], [True, True, False])
            self.assert_machine(bench, ONCE)

    def test_they_concern_the_machine_alone(self):
        bench = Workbench(ONCE)
        bench.keep("a", SOME)
        bench.change(FREE)
        bench.keep("b", ALL)
        bench.drop("a")
        self.assertIs(bench.undo(), True)
        self.assertEqual(bench.names(), ["b"])
        self.assertIs(bench.redo(), True)
        bench.keep("a", PAIR)
        self.assertEqual(bench.names(), ["a", "b"])
        self.assertIs(bench.redo(), False)
        bench.undo()
        bench.keep("c", PAIR)
        bench.drop("b")
        self.assertIs(bench.redo(), True)
        self.assert_machine(bench, FREE)

    def test_workbenches_are_by_themselves(self):
        one, two = Workbench(ONCE), Workbench(ONCE)
        one.change(FREE)
        one.keep("a", SOME)
        one.holds("a")
        self.assertIs(two.undo(), False)
        self.assertEqual((two.names(), two.made()), ([], 0))
        self.assert_machine(two, ONCE)


class Names(Case):
    def test_keep_and_drop(self):
        bench = Workbench(ONCE)
        for name in ("b", "", "a", "B", "aa", "a b", "10", "9"):
            self.assertIsNone(bench.keep(name, SOME))
        self.assertEqual(bench.names(), ["", "10", "9", "B", "a", "a b", "aa", "b"])
        self.assertIsNone(bench.drop("a"))
        self.assertIsNone(bench.drop(""))
        self.assertEqual(bench.names(), ["10", "9", "B", "a b", "aa", "b"])
        bench.keep("b", ALL)
        self.assertEqual(bench.names(), ["10", "9", "B", "a b", "aa", "b"])

    def test_a_sentence_under_a_name_that_is_there(self):
        bench = Workbench(ONCE)
        bench.keep("a", SOME)
        self.holds(bench, "a", True, 1)
        bench.keep("a", ALL)
        self.holds(bench, "a", False, 2)

    def test_names_that_are_not_there(self):
        bench = Workbench(ONCE)
        bench.keep("a", SOME)
        bench.keep("c", ALL)
        bench.drop("c")
        bench.holds("a")
        for name in ("b", "c", "", "A", "a "):
            for ask in (bench.drop, bench.holds, bench.shown):
                with self.assertRaises(UnknownName):
                    ask(name)
            self.assertEqual(bench.names(), ["a"])
            self.holds(bench, "a", True, 1)
        self.assert_machine(bench, ONCE)
        self.assertIs(bench.undo(), False)
        bench.drop("a")
        with self.assertRaises(UnknownName):
            bench.drop("a")

    def test_the_list_of_names_is_new(self):
        bench = Workbench(ONCE)
        bench.keep("a", SOME)
        names = bench.names()
        names.append("b")
        names[0] = "z"
        self.assertEqual(bench.names(), ["a"])
        self.assertIs(type(names), list)
        with self.assertRaises(UnknownName):
            bench.holds("b")


class Answers(Case):
    def test_kept_with_their_name(self):
        bench = Workbench(ONCE)
        bench.keep("some", SOME)
        bench.keep("all", ALL)
        bench.keep("other", SOME)
        self.assertEqual(bench.made(), 0)
        for _ in range(3):
            self.holds(bench, "some", True, 1)
        for _ in range(3):
            self.holds(bench, "all", False, 2)
        self.holds(bench, "other", True, 3)
        self.holds(bench, "some", True, 3)

    def test_until_the_machine_becomes_a_different_one(self):
        for change in (lambda bench: bench.change(NEVER), lambda bench: bench.turn_step(0, 1)):
            bench = Workbench(ONCE)
            bench.keep("some", SOME)
            bench.keep("all", ALL)
            self.holds(bench, "some", True, 1)
            change(bench)
            self.holds(bench, "some", False, 2)
            self.holds(bench, "all", False, 3)
            self.holds(bench, "some", False, 3)

    def test_also_by_undo_and_redo(self):
        bench = Workbench(ONCE)
        bench.keep("a", SOME)
        self.holds(bench, "a", True, 1)
        bench.change(NEVER)
        bench.undo()
        # This is the machine from before, but the answer was given up on the way.
        self.holds(bench, "a", True, 2)
        bench.redo()
        self.holds(bench, "a", False, 3)
        bench.undo()
        self.holds(bench, "a", True, 4)
        bench.redo()
        bench.undo()
        self.holds(bench, "a", True, 5)

    def test_a_step_that_is_turned_twice(self):
        bench = Workbench(ONCE)
        bench.keep("a", SOME)
        self.holds(bench, "a", True, 1)
        bench.turn_step(0, 1)
        bench.turn_step(0, 1)
        self.assert_machine(bench, ONCE)
        self.holds(bench, "a", True, 2)

    def test_an_equal_machine_is_no_different_one(self):
        bench = Workbench(ONCE)
        bench.keep("a", SOME)
        self.holds(bench, "a", True, 1)
        bench.change(ONCE)
        self.holds(bench, "a", True, 1)
        bench.change((2, (0,), ((0, 0), (0, 1), (1, 1)), ((), (0,))))
        self.holds(bench, "a", True, 1)
        self.assertEqual([bench.undo(), bench.undo()], [True, True])
        self.holds(bench, "a", True, 1)
        bench.redo()
        self.holds(bench, "a", True, 1)

    def test_machines_that_differ_in_one_member(self):
        for machine in ((3, (0,), ONCE[2], ((), (0,), ())), (2, (0, 1), ONCE[2], ONCE[3]),
                        (2, (0,), ONCE[2], ((), (0, 1)))):
            bench = Workbench(ONCE)
            bench.keep("a", SOME)
            self.holds(bench, "a", True, 1)
            bench.change(machine)
            self.holds(bench, "a", True, 2)

    def test_when_there_is_nothing_to_undo(self):
        bench = Workbench(ONCE)
        bench.keep("a", SOME)
        bench.holds("a")
        self.assertEqual([bench.undo(), bench.redo()], [False, False])
        self.holds(bench, "a", True, 1)

    def test_until_the_sentence_is_kept_anew_or_dropped(self):
        bench = Workbench(ONCE)
        bench.keep("a", SOME)
        bench.keep("b", SOME)
        bench.holds("a")
        self.holds(bench, "b", True, 2)
        bench.keep("a", SOME)
        self.holds(bench, "a", True, 3)
        bench.drop("a")
        bench.keep("a", SOME)
        self.holds(bench, "a", True, 4)
        # The answers of other names stay.
        self.holds(bench, "b", True, 4)
        bench.drop("a")
        self.holds(bench, "b", True, 4)

    def test_shown_keeps_nothing_and_does_not_count(self):
        bench = Workbench(ONCE)
        bench.keep("all", ALL)
        for _ in range(2):
            self.assertEqual(bench.shown("all"), (False, ([], [0])))
            self.assertEqual(bench.made(), 0)
        self.holds(bench, "all", False, 1)
        self.assertEqual(bench.shown("all"), (False, ([], [0])))
        self.holds(bench, "all", False, 1)
        bench.change(FREE)
        bench.shown("all")
        self.holds(bench, "all", False, 2)

    def test_shown(self):
        bench = Workbench(ONCE)
        bench.keep("some", SOME)
        bench.keep("pair", PAIR)
        bench.keep("none", ((), (("yes",),)))
        told, run = bench.shown("some")
        self.assertIs(told, True)
        self.assertTrue(is_a_run(ONCE, run) and 1 in run[1])
        self.assertEqual(bench.shown("pair"), (True, None))
        self.assertEqual(bench.shown("none"), (True, None))
        bench.change(NEVER)
        self.assertEqual(bench.shown("some"), (False, None))

    def test_the_run_that_is_shown_is_new(self):
        bench = Workbench(ONCE)
        bench.keep("all", ALL)
        run = bench.shown("all")[1]
        run[0].append(1)
        run[1][0] = 1
        self.assertEqual(bench.shown("all"), (False, ([], [0])))
        self.holds(bench, "all", False, 1)

    def test_too_many_values(self):
        bench = Workbench(ONCE)
        bench.keep("large", LARGE)
        bench.keep("a", SOME)
        bench.holds("a")
        bench.change(CIRCLE)
        self.holds(bench, "a", True, 2)
        for _ in range(2):
            for ask in (bench.holds, bench.shown):
                with self.assertRaises(TooManyValues):
                    ask("large")
                self.assertEqual(bench.made(), 2)
                self.assertEqual(bench.names(), ["a", "large"])
                self.assert_machine(bench, CIRCLE)
        self.holds(bench, "a", True, 2)
        self.assertIs(bench.undo(), True)
        self.holds(bench, "a", True, 3)


class WithAModel(Case):
    """Many calls, held against lists of machines and a table of answers."""

    def test_many_calls(self):
        rng = random.Random(71)
        for _ in range(25):
            self.check(rng, [some_machine(rng, 3) for _ in range(4)])

    def check(self, rng, machines):
        bench = Workbench(machines[0])
        line, at = [machines[0]], 0
        kept, answers, made = {}, {}, 0
        for _ in range(60):
            before = line[at]
            name = rng.choice("abc")
            act = rng.choice(["change", "turn", "undo", "redo", "keep", "drop", "holds", "holds", "shown"])
            if act in ("change", "turn"):
                machine = rng.choice(machines)
                if act == "change":
                    bench.change(machine)
                else:
                    step = (rng.randrange(before[0]), rng.randrange(before[0]))
                    bench.turn_step(*step)
                    machine = (*before[:2], tuple(sorted(set(before[2]) ^ {step})), before[3])
                line, at = [*line[:at + 1], machine], at + 1
            elif act in ("undo", "redo"):
                then = at + (1 if act == "redo" else -1)
                there = 0 <= then < len(line)
                self.assertIs(getattr(bench, act)(), there)
                at = then if there else at
            elif act == "keep":
                runs = rng.randrange(3)
                kept[name] = (tuple(rng.choice(["all", "some"]) for _ in range(runs)),
                              some_condition(rng, runs, 4))
                bench.keep(name, kept[name])
                answers.pop(name, None)
            elif name not in kept:
                with self.assertRaises(UnknownName):
                    getattr(bench, act)(name)
            elif act == "drop":
                bench.drop(name)
                del kept[name]
                answers.pop(name, None)
            elif act == "holds":
                if name not in answers:
                    answers[name] = decide(before, kept[name])
                    made += 1
                self.assertIs(bench.holds(name), answers[name])
            else:
                self.assertIs(bench.shown(name)[0], decide(before, kept[name]))
            if line[at] != before:
                answers = {}
            self.assertEqual(bench.machine(), line[at])
            self.assertEqual(bench.names(), sorted(kept))
            self.assertEqual(bench.made(), made)


if __name__ == "__main__":
    unittest.main()
