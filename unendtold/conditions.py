"""Conditions in time about the runs of a machine."""

from unendtold.making import linked_pairs, made, of_first_letter, table_of
from unendtold.readers import accepted_by
from unendtold.values import denied, joined_values, joint, least
from unendtold.words import side_by_side

MOST_LINES = 60
MOST_RUNS = 3
MANY_MARKS = 4

# For each name what its members are.
CONDITION_LINES = {
    "yes": (),
    "mark": ("mark", "run"),
    "same": ("run", "run"),
    "not": ("line",),
    "both": ("line", "line"),
    "next": ("line",),
    "till": ("line", "line"),
}

# The lines that are about one moment alone.
PLAIN = ("yes", "mark", "same")

# What comes of waiting: open is 0, so that `x or y` is y behind an open x.
OPEN = 0
HIT = 1
MISS = 2


def is_condition(condition, runs):
    """Returns True if a tuple of tuples is a condition about so many runs."""
    if not 1 <= len(condition) <= MOST_LINES or not 0 <= runs <= MOST_RUNS:
        return False
    return all([_is_line(line, at, runs) for at, line in enumerate(condition)])


def _is_line(line, at, runs):
    if not line or line[0] not in CONDITION_LINES:
        return False
    shape = CONDITION_LINES[line[0]]
    if len(line) != len(shape) + 1:
        return False
    bounds = {"mark": MANY_MARKS, "run": runs, "line": at}
    return all([0 <= number < bounds[kind] for kind, number in zip(shape, line[1:])])


def _by_letter(machine, line, runs):
    """Returns whether a plain line holds for each letter of so many runs."""
    rows = [()]
    for _ in range(runs):
        rows = [(*row, p) for row in rows for p in range(machine[0])]
    marks = machine[3]
    if line[0] == "mark":
        return [line[1] in marks[row[line[2]]] for row in rows]
    if line[0] == "same":
        return [marks[row[line[1]]] == marks[row[line[2]]] for row in rows]
    return [True for _ in rows]


def says(machine, words, condition):
    """Returns whether a condition holds at the moments of the beginning and the round."""
    before, again = side_by_side(words, machine[0])
    start = len(before)
    letters = before + again
    told = []
    for line in condition:
        if line[0] in PLAIN:
            holds = _by_letter(machine, line, len(words))
            told.append([holds[a] for a in letters])
        else:
            told.append(_told_of(line[0], [told[c] for c in line[1:]], start))
    return (told[-1][:start], told[-1][start:])


def _told_of(name, rows, start):
    """Returns when a line holds that is made of lines that hold as `rows` tell."""
    if name == "not":
        return [not c for c in rows[0]]
    if name == "both":
        return [c and d for c, d in zip(rows[0], rows[1])]
    if name == "next":
        return rows[0][1:] + [rows[0][start]]
    return _told_till(rows[0], rows[1], start)


def _told_till(first, second, start):
    # The round is gone through twice, as its last moment looks on into its first one.
    moments = list(range(len(second))) + list(range(start, len(second)))
    row = list(second)
    later = False
    for at in reversed(moments):
        later = second[at] or (first[at] and later)
        row[at] = later
    return row


def condition_reader(machine, condition, runs):
    """Returns the least reader of a condition about so many runs."""
    used = _used(condition)
    readers = {}
    for at, line in enumerate(condition):
        if used[at]:
            readers[at] = least(_line_reader(machine, line, runs, readers))
    return readers[len(condition) - 1]


def _used(condition):
    """Returns for each line whether the last one is made of it."""
    used = [False for _ in condition]
    used[-1] = True
    for at in reversed(range(len(condition))):
        line = condition[at]
        for kind, number in zip(CONDITION_LINES[line[0]], line[1:]):
            if used[at] and kind == "line":
                used[number] = True
    return used


def _line_reader(machine, line, runs, readers):
    """Returns the reader of a line, not made least."""
    name = line[0]
    if name in PLAIN:
        return of_first_letter(_by_letter(machine, line, runs))
    named = [readers[c] for c in line[1:]]
    if name == "not":
        return denied(named[0])
    if name == "both":
        return joint("both", named[0], named[1])
    if name == "next":
        return _next_reader(named[0])
    return _till_reader(named[0], named[1])


def _next_reader(reader):
    letters, mul, _ = reader
    told = accepted_by(reader)

    def times(x, y):
        behind = mul[x[0]][y[1]] if x[0] >= 0 else y[1]
        return (behind, mul[x[1]][y[1]])

    return made([(-1, v) for v in letters], times, lambda s, f: (s[0], f[1]) in told)


def _till_reader(first, second):
    waiting = Waiting(first, second)
    heads = [waiting.letter_value(x) for x in waiting.heads]
    return made(heads, lambda x, y: waiting.times(x, y), lambda s, f: waiting.is_hit(s, f))


class Waiting:
    """The values of stretches for `till` of the lines of two readers.

    A value is the number of a pair of values of the readers, and the tuple of what
    comes of waiting for each future. `told` has what the readers say of the words
    of a linked pair, `futures` the number of its future; `samples` has a linked
    pair for each future, and `onward` the futures that a letter leads back to.
    """

    def __init__(self, first, second):
        growth = joined_values(first, second)
        self.heads = growth.heads
        self.mul = table_of(growth)
        self.told = {}
        self.futures = {}
        self.samples = []
        self.onward = {}
        self._find_futures(growth.known, _told_behind(first), _told_behind(second))

    def _find_futures(self, known, first, second):
        numbers = {}
        for s, f in linked_pairs(self.mul):
            one = first[(known[s][0], known[f][0])]
            two = second[(known[s][1], known[f][1])]
            if (one, two) not in numbers:
                numbers[(one, two)] = len(numbers)
                self.samples.append((s, f))
            self.futures[(s, f)] = numbers[(one, two)]
            self.told[(s, f)] = (one[0], two[0])

    def letter_value(self, x):
        """Returns the value of a letter for which the readers have the pair number x."""
        row = self.mul[x]
        behind = [(row[s], f) for s, f in self.samples]
        self.onward[x] = [self.futures[pair] for pair in behind]
        return (x, tuple([_waited(self.told[pair]) for pair in behind]))

    def times(self, x, y):
        """Returns the value of a stretch followed by a letter with the value y."""
        futures = self.onward[y[0]]
        waits = tuple([x[1][future] or wait for future, wait in zip(futures, y[1])])
        return (self.mul[x[0]][y[0]], waits)

    def is_hit(self, s, f):
        """Returns True if waiting in s, and then in f again and again, is a hit."""
        future = self.futures[(f[0], f[0])]
        return (s[1][future] or f[1][future]) == HIT


def _waited(told):
    """Returns what comes of waiting in a letter of whose word this is told."""
    first, second = told
    if second:
        return HIT
    return OPEN if first else MISS


def _told_behind(reader):
    """Returns for each linked pair what is said of its words, and a number for that
    and for what is said of them behind each value.
    """
    mul = reader[1]
    told = accepted_by(reader)
    numbers = {}
    found = {}
    for s, f in linked_pairs(mul):
        behind = tuple([(row[s], f) in told for row in mul])
        sign = ((s, f) in told, behind)
        found[(s, f)] = (sign[0], numbers.setdefault(sign, len(numbers)))
    return found
