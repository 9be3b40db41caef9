"""Formulas about sets of moments."""

from unendtold.making import made, of_first_letter
from unendtold.readers import accepts
from unendtold.values import denied, hidden, joint, least

MOST_LINES = 60
HIGHEST_SET = 4

# For each name what the line is about, and then what each of its members is.
FORMULA_LINES = {
    "set": ("moment", "set"),
    "not": ("moment", "moment"),
    "and": ("moment", "moment", "moment"),
    "all": ("whole", "moment"),
    "first": ("whole", "moment"),
    "often": ("whole", "moment"),
    "step": ("whole", "moment", "moment"),
    "denied": ("whole", "whole"),
    "both": ("whole", "whole", "whole"),
    "there": ("whole", "whole"),
}

BROKEN = "broken"


def is_formula(formula):
    """Returns True if a tuple of tuples is a formula."""
    if not 1 <= len(formula) <= MOST_LINES:
        return False
    kinds = []
    for line in formula:
        if not _is_line(line, kinds):
            return False
        kinds.append(FORMULA_LINES[line[0]][0])
    return kinds[-1] == "whole"


def _is_line(line, kinds):
    """Returns True for a line behind others that are about what `kinds` says."""
    if not line or line[0] not in FORMULA_LINES:
        return False
    shape = FORMULA_LINES[line[0]]
    if len(line) != len(shape):
        return False
    return all([_is_member(kind, number, kinds) for kind, number in zip(shape[1:], line[1:])])


def _is_member(kind, number, kinds):
    if kind == "set":
        return 0 <= number <= HIGHEST_SET
    return 0 <= number < len(kinds) and kinds[number] == kind


def depth_of(formula, number):
    """Returns the depth of a line: how many `there` lines it has in one another."""
    depths = []
    for line in formula[:number + 1]:
        named = _named_wholes(line)
        depth = max([depths[f] for f in named], default=0)
        depths.append(depth + 1 if line[0] == "there" else depth)
    return depths[number]


def _named_wholes(line):
    """Returns the numbers of the lines about all moments that a line names."""
    return [number for kind, number in zip(FORMULA_LINES[line[0]][1:], line[1:]) if kind == "whole"]


def formula_reader(formula, sets):
    """Returns the least reader of a formula with so many given sets."""
    end = len(formula) - 1
    used = _used(formula, sets)
    truths = _truths(formula, sets + depth_of(formula, end))
    readers = {}
    for at, line in enumerate(formula):
        for k in used[at]:
            readers[(at, k)] = least(_line_reader(line, k, truths, readers))
    return readers[(end, sets)]


def _used(formula, sets):
    """Returns for each line a dict of the numbers of sets that it is read with."""
    used = [{} for _ in formula]
    used[-1][sets] = True
    for at in reversed(range(len(formula))):
        line = formula[at]
        for k in list(used[at]):
            for f in _named_wholes(line):
                used[f][k + 1 if line[0] == "there" else k] = True
    return used


def _truths(formula, sets):
    """Returns for each line about one moment whether it holds for each letter.

    Fewer sets have the first ones of these letters. A set that there is not then is
    in none of them, so it is empty. Lines about all moments have an empty list.
    """
    letters = list(range(1 << sets))
    truths = []
    for line in formula:
        name = line[0]
        if name == "set":
            truths.append([a >> line[1] & 1 == 1 for a in letters])
        elif name == "not":
            truths.append([not c for c in truths[line[1]]])
        elif name == "and":
            truths.append([c and d for c, d in zip(truths[line[1]], truths[line[2]])])
        else:
            truths.append([])
    return truths


def _line_reader(line, sets, truths, readers):
    """Returns the reader of a line about all moments, not made least."""
    name = line[0]
    if name == "there":
        seen = list(range(1 << sets))
        return hidden(readers[(line[1], sets + 1)], seen + seen, len(seen))
    if name == "denied":
        return denied(readers[(line[1], sets)])
    if name == "both":
        return joint("both", readers[(line[1], sets)], readers[(line[2], sets)])
    rows = [truths[c][:1 << sets] for c in line[1:]]
    if name == "all":
        return made(rows[0], lambda x, y: x and y, lambda s, f: s and f)
    if name == "often":
        return made(rows[0], lambda x, y: x or y, lambda s, f: f)
    if name == "first":
        return of_first_letter(rows[0])
    return _step_reader(rows[0], rows[1])


def _step_reader(now, then):
    """Returns the reader of: whenever `now` holds for a letter, `then` does for the next."""
    def times(x, y):
        if x == BROKEN or y == BROKEN or (x[1] and not y[0]):
            return BROKEN
        return (x[0], y[1])

    return made(list(zip(then, now)), times, lambda s, f: s != BROKEN and f != BROKEN)


def decide(formula):
    """Returns True if a formula without given sets holds."""
    return accepts(formula_reader(formula, 0), ([], [0]))
