"""Point 40: written conditions and formulas."""

import random
import unittest

from helpers import some_condition
from unendtold.conditions import is_condition
from unendtold.errors import InvalidWord
from unendtold.formulas import is_formula
from unendtold.notation import format_lines, parse_condition, parse_formula

# For each name what the words behind it are: d is a line about this, m about a moment,
# and digits are below a number; in conditions there are three runs.
IN_CONDITIONS = {"yes": "", "mark": "43", "same": "33", "not": "d", "both": "dd", "next": "d", "till": "dd"}
IN_FORMULAS = {"all": "m", "first": "m", "often": "m", "step": "mm", "denied": "d", "both": "dd", "there": "d"}
ABOUT_MOMENTS = {"set": "5", "not": "m", "and": "mm"}

NOT_DIGITS = ("", "-1", "+1", "-0", "+0", "1.0", "1.", ".1", "00", "01", "007", "10", "12", "1e0", "0x1", "1_0",
              "a", "yes", "one", "\u0661", "\u00b2", "\uff11", "\u09e7", "1\n", "\t1", "1\u00a0", "-", ".", "1,")


def expanded(lines, at):
    """The words of a line and of all that it names, by points 26 and 17."""
    name, *named = lines[at]
    if name in ("mark", "same", "set"):
        return [name, *[str(k) for k in named]]
    return [name, *[word for c in named for word in expanded(lines, c)]]


def laid_out(lines, at):
    """The lines that a line is made of, each use by itself, and then the line."""
    name, *named = lines[at]
    if name in ("mark", "same", "set"):
        return [(name, *named)]
    found = []
    numbers = []
    for c in named:
        part = laid_out(lines, c)
        found += [line if line[0] in ("mark", "same", "set") else
                  (line[0], *[number + len(found) for number in line[1:]]) for line in part]
        numbers.append(len(found) - 1)
    return found + [(name, *numbers)]


def some_words(rng, shapes, kind, depth):
    """Written lines, chosen by `rng`; `shapes` has the names for each kind of lines."""
    names = [name for name, shape in shapes[kind].items()
             if depth > 0 or not set(shape) & {"d", "m"}]
    if not names:
        names = list(shapes[kind])
    name = rng.choice(names)
    row = [name]
    for part in shapes[kind][name]:
        if part in shapes:
            row += some_words(rng, shapes, part, depth - 1)
        else:
            row.append(str(rng.randrange(int(part))))
    return row


def parsed_condition(text):
    return parse_condition(3, text)


GRAMMARS = ((parsed_condition, {"d": IN_CONDITIONS}), (parse_formula, {"d": IN_FORMULAS, "m": ABOUT_MOMENTS}))


class Case(unittest.TestCase):
    def assert_wrong(self, parse, text, number):
        with self.assertRaises(InvalidWord) as caught:
            parse(text)
        self.assertEqual(caught.exception.number, number, text)

    def assert_condition_wrong(self, runs, text, number):
        self.assert_wrong(lambda row: parse_condition(runs, row), text, number)


class Format(Case):
    def test_each_name(self):
        for lines, text in [
                ((("yes",),), "yes"), ((("mark", 2, 0),), "mark 2 0"), ((("same", 1, 2),), "same 1 2"),
                ((("yes",), ("not", 0)), "not yes"), ((("yes",), ("next", 0)), "next yes"),
                ((("yes",), ("mark", 0, 1), ("both", 0, 1)), "both yes mark 0 1"),
                ((("yes",), ("mark", 2, 0), ("till", 0, 1)), "till yes mark 2 0"),
                ((("yes",), ("mark", 2, 0), ("till", 1, 0)), "till mark 2 0 yes"),
                ((("set", 4), ("all", 0)), "all set 4"), ((("set", 0), ("first", 0)), "first set 0"),
                ((("set", 1), ("not", 0), ("often", 1)), "often not set 1"),
                ((("set", 1), ("set", 2), ("step", 0, 1)), "step set 1 set 2"),
                ((("set", 1), ("set", 2), ("and", 1, 0), ("all", 2)), "all and set 2 set 1"),
                ((("set", 0), ("all", 0), ("denied", 1)), "denied all set 0"),
                ((("set", 0), ("all", 0), ("first", 0), ("both", 2, 1)), "both first set 0 all set 0"),
                ((("set", 0), ("all", 0), ("there", 1)), "there all set 0")]:
            self.assertEqual(format_lines(lines), text)

    def test_lines_that_are_used_twice_or_not_at_all(self):
        self.assertEqual(format_lines((("yes",), ("both", 0, 0), ("both", 1, 1))), "both both yes yes both yes yes")
        self.assertEqual(format_lines((("mark", 1, 0), ("yes",), ("not", 0), ("next", 1))), "next yes")
        self.assertEqual(format_lines((("yes",), ("mark", 0, 0))), "mark 0 0")

    def test_held_against_the_lines(self):
        rng = random.Random(11)
        for _ in range(300):
            lines = some_condition(rng, 3, rng.randrange(1, 9))
            self.assertEqual(format_lines(lines), " ".join(expanded(lines, len(lines) - 1)))

    def test_a_hundred_words_and_more(self):
        for size in (100, 130, 400):
            lines = (("yes",), *[("not", at) for at in range(size - 1)])
            self.assertEqual(format_lines(lines), "not " * (size - 1) + "yes")


class Parse(Case):
    def test_example(self):
        self.assertEqual(parse_condition(1, "till yes mark 2 0"), (("yes",), ("mark", 2, 0), ("till", 0, 1)))

    def test_each_name(self):
        for text, lines in [
                ("yes", (("yes",),)), ("mark 3 2", (("mark", 3, 2),)), ("same 2 0", (("same", 2, 0),)),
                ("not yes", (("yes",), ("not", 0))), ("next yes", (("yes",), ("next", 0))),
                ("both yes mark 0 1", (("yes",), ("mark", 0, 1), ("both", 0, 1))),
                ("till mark 0 1 yes", (("mark", 0, 1), ("yes",), ("till", 0, 1)))]:
            self.assertEqual(parse_condition(3, text), lines)
        for text, lines in [
                ("all set 4", (("set", 4), ("all", 0))), ("first set 0", (("set", 0), ("first", 0))),
                ("often not set 3", (("set", 3), ("not", 0), ("often", 1))),
                ("step set 0 and set 1 set 2", (("set", 0), ("set", 1), ("set", 2), ("and", 1, 2), ("step", 0, 3))),
                ("denied all set 0", (("set", 0), ("all", 0), ("denied", 1))),
                ("both first set 1 all set 0", (("set", 1), ("first", 0), ("set", 0), ("all", 2), ("both", 1, 3))),
                ("there there all set 0", (("set", 0), ("all", 0), ("there", 1), ("there", 2)))]:
            self.assertEqual(parse_formula(text), lines)

    def test_lines_used_twice_are_laid_out_for_each_use(self):
        twice = format_lines((("mark", 0, 1), ("both", 0, 0), ("till", 1, 1)))
        self.assertEqual(parse_condition(2, twice), (
            ("mark", 0, 1), ("mark", 0, 1), ("both", 0, 1), ("mark", 0, 1), ("mark", 0, 1), ("both", 3, 4),
            ("till", 2, 5)))
        twice = format_lines((("set", 2), ("and", 0, 0), ("step", 1, 1), ("both", 2, 2)))
        step = (("set", 2), ("set", 2), ("and", 0, 1), ("set", 2), ("set", 2), ("and", 3, 4), ("step", 2, 5))
        moved = tuple(line if line[0] == "set" else (line[0], *[k + 7 for k in line[1:]]) for line in step)
        self.assertEqual(parse_formula(twice), (*step, *moved, ("both", 6, 13)))

    def test_there_and_back(self):
        rng = random.Random(21)
        for parse, shapes in GRAMMARS:
            for _ in range(400):
                row = some_words(rng, shapes, "d", rng.randrange(5))
                lines = parse(" ".join(row))
                self.assertEqual(format_lines(lines), " ".join(row))
                self.assertEqual(list(lines), laid_out(lines, len(lines) - 1))
                self.assertTrue(all(isinstance(line, tuple) for line in (lines, *lines)))
                if len(lines) <= 60:
                    right = is_formula(lines) if parse is parse_formula else is_condition(lines, 3)
                    self.assertIs(right, True)

    def test_lines_that_are_written_and_read(self):
        rng = random.Random(22)
        for _ in range(300):
            lines = some_condition(rng, 3, rng.randrange(1, 9))
            self.assertEqual(list(parse_condition(3, format_lines(lines))), laid_out(lines, len(lines) - 1))

    def test_more_than_60_lines(self):
        self.assertEqual(len(parse_condition(0, "not " * 99 + "yes")), 100)
        self.assertEqual(len(parse_condition(0, "both " * 49 + "yes " * 49 + "yes")), 99)
        self.assertEqual(len(parse_formula("denied " * 97 + "all set 0")), 99)
        self.assertEqual(len(parse_condition(0, "not " * 399 + "yes")), 400)
        self.assert_condition_wrong(0, "not " * 400, 400)

    def test_runs(self):
        for runs in range(4):
            for k in range(10):
                for text, at in [(f"mark 0 {k}", 2), (f"same {k} {k}", 1), (f"same 0 {k}", 2), (f"same {k} 0", 1)]:
                    if k < runs:
                        self.assertEqual(len(parse_condition(runs, text)), 1)
                    else:
                        self.assert_condition_wrong(runs, text, at if runs or text[0] == "m" else 1)


class Wrong(Case):
    def test_empty_words(self):
        for parse in (parsed_condition, parse_formula):
            for text, number in [("", 0), (" ", 0), ("  ", 0)]:
                self.assert_wrong(parse, text, number)
        for text, number in [(" yes", 0), ("yes ", 1), ("yes  ", 1), ("not  yes", 1), ("not yes ", 2), ("mark  0 0", 1),
                             ("mark 0  0", 2), ("mark 0 0 ", 3), ("both yes  yes", 2), ("till  yes yes", 1)]:
            self.assert_condition_wrong(1, text, number)
        for text, number in [(" all set 0", 0), ("all  set 0", 1), ("all set  0", 2), ("all set 0 ", 3),
                             ("step set 0  set 0", 3), ("denied  all set 0", 1)]:
            self.assert_wrong(parse_formula, text, number)

    def test_other_blanks(self):
        for blank in ("\t", "\n", "\u00a0", "\r"):
            self.assert_condition_wrong(1, f"not{blank}yes", 0)
            self.assert_condition_wrong(1, f"not {blank}yes", 1)
            self.assert_condition_wrong(1, f"not yes{blank}", 1)
            self.assert_condition_wrong(1, f"not yes {blank}", 2)

    def test_names_that_are_none(self):
        for name in ("no", "Yes", "YES", "y", "yes,", "line", "run", "moment", "whole", "0", "3", "true", "until", "or",
                     "m", "d", "None", "\u00fdes"):
            for parse in (parsed_condition, parse_formula):
                self.assert_wrong(parse, name, 0)
            self.assert_condition_wrong(3, f"not {name}", 1)
            self.assert_condition_wrong(3, f"both yes {name}", 2)
            self.assert_wrong(parse_formula, f"all {name}", 1)
            self.assert_wrong(parse_formula, f"both all set 0 {name} set 1", 4)

    def test_lines_of_the_wrong_kind(self):
        for name in ("set", "and", "all", "first", "often", "step", "denied", "there"):
            self.assert_condition_wrong(3, f"{name} yes", 0)
            self.assert_condition_wrong(3, f"till yes {name} 0 0", 2)
        for name in ("yes", "mark", "same", "next", "till", "set", "not", "and"):
            self.assert_wrong(parse_formula, f"{name} set 0", 0)
            self.assert_wrong(parse_formula, f"there {name} set 0", 1)
            self.assert_wrong(parse_formula, f"both all set 0 {name} set 0", 4)
        for name in ("yes", "mark", "same", "next", "till", "all", "first", "often", "step", "denied", "both", "there"):
            self.assert_wrong(parse_formula, f"all {name} set 0", 1)
            self.assert_wrong(parse_formula, f"step not set 0 {name} set 0", 4)

    def test_numbers(self):
        for word in NOT_DIGITS:
            self.assert_condition_wrong(3, f"mark {word} 1", 1)
            self.assert_condition_wrong(3, f"mark 1 {word}", 2)
            self.assert_condition_wrong(3, f"same {word} 1", 1)
            self.assert_condition_wrong(3, f"not same 1 {word}", 3)
            self.assert_wrong(parse_formula, f"all set {word}", 2)
            self.assert_wrong(parse_formula, f"step set {word} set 0", 2)

    def test_numbers_in_place_of_lines_and_lines_in_place_of_numbers(self):
        self.assert_condition_wrong(3, "not 0", 1)
        self.assert_condition_wrong(3, "mark yes 0", 1)
        self.assert_condition_wrong(3, "mark 0 yes", 2)
        self.assert_wrong(parse_formula, "all 0", 1)
        self.assert_wrong(parse_formula, "all set set 0", 2)

    def test_numbers_that_are_too_high(self):
        for k in range(10):
            if k > 3:
                self.assert_condition_wrong(3, f"mark {k} 0", 1)
            else:
                self.assertEqual(parse_condition(3, f"mark {k} 0"), (("mark", k, 0),))
            if k > 4:
                self.assert_wrong(parse_formula, f"all set {k}", 2)
            else:
                self.assertEqual(parse_formula(f"all set {k}"), (("set", k), ("all", 0)))

    def test_cut_behind_each_word(self):
        rng = random.Random(31)
        for parse, shapes in GRAMMARS:
            for _ in range(60):
                row = some_words(rng, shapes, "d", rng.randrange(1, 5))
                for end in range(1, len(row)):
                    self.assert_wrong(parse, " ".join(row[:end]), end)

    def test_a_word_too_many(self):
        rng = random.Random(32)
        for parse, shapes in GRAMMARS:
            for _ in range(60):
                row = some_words(rng, shapes, "d", rng.randrange(4))
                for more in ("yes", "0", "", "not yes", "all set 0", "no"):
                    self.assert_wrong(parse, " ".join([*row, more]), len(row))

    def test_one_word_put_in_place_of_another(self):
        rng = random.Random(33)
        for parse, shapes in GRAMMARS:
            for _ in range(100):
                row = some_words(rng, shapes, "d", rng.randrange(4))
                at = rng.randrange(len(row))
                for word in ("", "no", "9", "-1", "00"):
                    self.assert_wrong(parse, " ".join(row[:at] + [word] + row[at + 1:]), at)

    def test_two_faults_at_once(self):
        for text, number in [("no no", 0), ("mark 4 3", 1), ("mark 0 3 yes", 2), ("both no", 1), ("till yes mark 9", 3),
                             ("mark 9 0 0", 1), ("same 3", 1), ("both yes  no", 2), (" not  yes", 0),
                             ("both mark 0 01 no", 3), ("not yes yes ", 2)]:
            self.assert_condition_wrong(3, text, number)
        for text, number in [("all set 5 set", 2), ("step set 0 all set 9", 3), ("set 9", 0), ("both all set 5 no", 3),
                             ("often", 1), ("denied set 7", 1), ("all  set", 1)]:
            self.assert_wrong(parse_formula, text, number)

    def test_it_is_a_value_error(self):
        with self.assertRaises(ValueError):
            parse_condition(0, "no")


if __name__ == "__main__":
    unittest.main()
