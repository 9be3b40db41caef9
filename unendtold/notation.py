"""Conditions and formulas that are written as words."""

from unendtold.conditions import CONDITION_LINES, MANY_MARKS
from unendtold.errors import InvalidWord
from unendtold.formulas import FORMULA_LINES, HIGHEST_SET

DIGITS = "0123456789"

# The lines whose members are written as digits; those of all others are lines.
NUMBERED = ("mark", "same", "set")


def format_lines(lines):
    """Returns the written form of a condition or formula."""
    words = []
    wanted = [len(lines) - 1]
    while wanted:
        line = lines[wanted.pop()]
        words.append(line[0])
        if line[0] in NUMBERED:
            words.extend([str(number) for number in line[1:]])
        else:
            wanted.extend(list(reversed(line[1:])))
    return " ".join(words)


def parse_condition(runs, text):
    """Returns the lines of a written condition about so many runs."""
    shapes = {name: ("line", *shape) for name, shape in CONDITION_LINES.items()}
    return _laid_out(text, "line", shapes, {"mark": MANY_MARKS, "run": runs})


def parse_formula(text):
    """Returns the lines of a written formula."""
    return _laid_out(text, "whole", dict(FORMULA_LINES), {"set": HIGHEST_SET + 1})


def _laid_out(text, start, shapes, bounds):
    """Returns the lines of a text whose last line is of the kind `start`.

    `shapes` has for each name the kind of its line and then those of its members,
    `bounds` for each kind of digits what they are below. What is wanted next is the
    last one of `wanted`: a word of a kind, or the end of a line with a name.
    """
    words = text.split(" ")
    lines = []
    numbers = []
    wanted = [(start, "")]
    at = 0
    while wanted:
        kind, name = wanted.pop()
        if name:
            end = len(numbers) - len(shapes[name]) + 1
            members = numbers[end:]
            lines.append((name, *members))
            numbers = numbers[:end] + [len(lines) - 1]
        elif kind in bounds:
            numbers.append(_number(words, at, bounds[kind]))
            at += 1
        else:
            wanted.append((kind, _name(words, at, shapes, kind)))
            wanted.extend([(member, "") for member in reversed(shapes[words[at]][1:])])
            at += 1
    if at < len(words):
        raise InvalidWord(at)
    return tuple(lines)


def _name(words, at, shapes, kind):
    """Returns the word number `at`, the name of a line of a kind."""
    if at == len(words) or words[at] not in shapes or shapes[words[at]][0] != kind:
        raise InvalidWord(at)
    return words[at]


def _number(words, at, bound):
    """Returns what the word number `at` tells, one digit below a bound."""
    if at == len(words) or len(words[at]) != 1 or words[at] not in DIGITS or int(words[at]) >= bound:
        raise InvalidWord(at)
    return int(words[at])
