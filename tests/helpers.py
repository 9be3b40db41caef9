"""Readers, acceptors and words for the tests, made without the program."""

import random
from itertools import product
from math import lcm


def rows(count, most):
    """All lists of 0 to `most` letters, shorter ones first, then by their letters."""
    return [list(row) for size in range(most + 1) for row in product(range(count), repeat=size)]


def words(count, longest_beginning, longest_round):
    """All endless words with lists up to these lengths."""
    return [(list(before), list(again))
            for before in rows(count, longest_beginning)
            for again in rows(count, longest_round) if again]


def some_words(rng, count, many, longest=6):
    """Some endless words, chosen by `rng`."""
    def row(least):
        return [rng.randrange(count) for _ in range(rng.randrange(least, longest + 1))]
    return [(row(0), row(1)) for _ in range(many)]


def rewritten(rng, word):
    """The same endless word with another beginning and another round."""
    before, again = word
    turn = rng.randrange(len(again) + 1)
    times = rng.randrange(3)
    return (before + again * times + again[:turn], (again[turn:] + again[:turn]) * rng.randrange(1, 4))


class Automaton:
    """States with steps by letters, some states to be met endlessly often."""

    def __init__(self, count, states, firsts, steps, again):
        self.count = count
        self.states = states
        self.firsts = firsts
        self.steps = steps
        self.again = again

    def takes(self, word):
        """Searches for a loop through a state of `again` beside the word."""
        letters = word[0] + word[1]

        def onward(node):
            p, at = node
            then = at + 1 if at + 1 < len(letters) else len(word[0])
            return [(q, then) for (r, a, q) in self.steps if r == p and a == letters[at]]

        def reached(nodes):
            found = set(nodes)
            todo = list(nodes)
            while todo:
                for node in onward(todo.pop()):
                    if node not in found:
                        found.add(node)
                        todo.append(node)
            return found

        return any(node in reached(onward(node))
                   for node in reached([(p, 0) for p in self.firsts])
                   if node[0] in self.again)

    def acceptor(self):
        """The same as the tuple that the program calls an acceptor."""
        return (self.count, self.states, tuple(sorted(self.firsts)), tuple(sorted(self.steps)),
                tuple(sorted(self.again)))

    def seen_as(self, seen, count):
        """The automaton of what is seen of its letters."""
        steps = {(p, seen[a], q) for (p, a, q) in self.steps}
        return Automaton(count, self.states, self.firsts, steps, self.again)

    def reader(self, rng):
        """A reader that accepts what is taken, its values in any order."""
        size = range(self.states)

        def joined(x, y):
            return tuple(tuple(max((max(x[p][r], y[r][q]) for r in size if x[p][r] and y[r][q]),
                                   default=0) for q in size) for p in size)

        def head(a):
            return tuple(tuple((2 if p in self.again else 1) if (p, a, q) in self.steps else 0
                               for q in size) for p in size)

        heads = [head(a) for a in range(self.count)]
        known = list(dict.fromkeys(heads))
        for x in known:
            for y in heads:
                if joined(x, y) not in known:
                    known.append(joined(x, y))
        rng.shuffle(known)
        number = {key: at for at, key in enumerate(known)}
        mul = tuple(tuple(number[joined(x, y)] for y in known) for x in known)

        def taken(s, f):
            return any(known[s][p][q] and known[f][q][q] == 2 for p in self.firsts for q in size)

        accepted = tuple(pair for pair in linked(mul) if taken(*pair))
        return (tuple(number[key] for key in heads), mul, accepted)


def values_of(heads, times):
    """All values of words, as many as there are, in the order of their first words."""
    letters = list(dict.fromkeys(heads))
    known = dict.fromkeys(letters)
    todo = list(letters)
    for x in todo:
        for y in letters:
            z = times(x, y)
            if z not in known:
                known[z] = None
                todo.append(z)
    return list(known)


def pair_values(one, two):
    """All pairs of values that words have for two readers."""
    return values_of(list(zip(one[0], two[0])),
                     lambda x, y: (one[1][x[0]][y[0]], two[1][x[1]][y[1]]))


def linked(mul):
    """All linked pairs of a table, ascending."""
    size = range(len(mul))
    return [(s, f) for s in size for f in size if mul[s][f] == s and mul[f][f] == f]


def some_automaton(rng, count, states):
    steps = {(p, a, q) for p in range(states) for a in range(count) for q in range(states)
             if rng.random() < 0.45}
    again = [p for p in range(states) if rng.random() < 0.5] or [0]
    return Automaton(count, states, [0], steps, again)


def only_word(count, before, letter):
    """The automaton that takes one word alone: some letters, and then one for ever."""
    end = len(before)
    steps = {(p, a, p + 1) for p, a in enumerate(before)} | {(end, letter, end)}
    return Automaton(count, end + 1, [0], steps, [end])


def small_cases(seed, many, count=2, most_values=40):
    """Pairs of an automaton and a reader for it, with at most so many values."""
    rng = random.Random(seed)
    cases = []
    while len(cases) < many:
        automaton = some_automaton(rng, count, rng.randrange(1, 4))
        reader = automaton.reader(rng)
        if len(reader[1]) <= most_values:
            cases.append((automaton, reader))
    return cases


def with_more_values(rng, reader):
    """The same reader with a value that no word has, all in another order.

    The value that is added changes nothing that it is joined with, so of the linked
    pairs with it any ones may be accepted.
    """
    letters, mul, accepted = reader
    many = len(mul)
    table = [list(row) + [x] for x, row in enumerate(mul)] + [list(range(many + 1))]
    pairs = list(accepted) + [(s, many) for s in range(many + 1) if rng.random() < 0.5]
    place = list(range(many + 1))
    rng.shuffle(place)
    moved = [[0] * (many + 1) for _ in place]
    for x, row in enumerate(table):
        for y, z in enumerate(row):
            moved[place[x]][place[y]] = place[z]
    return (tuple(place[v] for v in letters), tuple(tuple(row) for row in moved),
            tuple(sorted((place[s], place[f]) for s, f in pairs)))


def cyclic(many, heads, told=False):
    """The reader of sums modulo `many`; it accepts all words or none."""
    mul = tuple(tuple((x + y) % many for y in range(many)) for x in range(many))
    return (tuple(heads), mul, tuple((s, 0) for s in range(many)) if told else ())


def two_circles(one, two):
    """A reader of two letters: rows of the first one are counted modulo `one`, rows
    of the second one modulo `two`, and all mixed rows have one value."""
    zero = one + two

    def joined(x, y):
        if x < one and y < one:
            return (x + y) % one
        if one <= x < zero and one <= y < zero:
            return one + (x - one + y - one) % two
        return zero

    size = range(zero + 1)
    return ((1, one + 1), tuple(tuple(joined(x, y) for y in size) for x in size), ())


def spans_of(words_beside):
    """How long the beginning and the round are that some words have together."""
    return (max((len(before) for before, _ in words_beside), default=0),
            lcm(*[len(again) for _, again in words_beside]))


def letter_of(word, moment):
    before, again = word
    return before[moment] if moment < len(before) else again[(moment - len(before)) % len(again)]


def beside_each_other(words_beside, count):
    """Words of states as one word; of no words, the word of the letter 0."""
    start, length = spans_of(words_beside)
    row = [sum(letter_of(word, t) * count ** (len(words_beside) - 1 - k)
               for k, word in enumerate(words_beside)) for t in range(start + length)]
    return (row[:start], row[start:])


def condition_holds(machine, runs, condition, number, moment):
    """What a line of a condition says of words at a moment, in the words of point 26."""
    name, *named = condition[number]

    def holds(c, t):
        return condition_holds(machine, runs, condition, c, t)

    def marks(k):
        return machine[3][letter_of(runs[k], moment)]

    if name == "yes":
        return True
    if name == "mark":
        return named[0] in marks(named[1])
    if name == "same":
        return marks(named[0]) == marks(named[1])
    if name == "not":
        return not holds(named[0], moment)
    if name == "both":
        return holds(named[0], moment) and holds(named[1], moment)
    start, length = spans_of(runs)
    if name == "next":
        # Later moments are as those of the round, which come again and again.
        return holds(named[0], moment + 1 if moment + 1 < start + length else start)
    later = [t if t < start + length else start + (t - start) % length
             for t in range(moment, max(moment, start) + length)]
    for t in later:
        if holds(named[1], t):
            return True
        if not holds(named[0], t):
            return False
    return False


def some_condition(rng, runs, many, names=("not", "both", "next", "till", "till")):
    lines = []
    for at in range(many):
        name = rng.choice(["yes"] + (["mark"] * 3 + ["same"] if runs else []) + list(names if at else ()))
        numbers = {"yes": 0, "mark": 2, "same": 2, "not": 1, "next": 1, "both": 2, "till": 2}[name]
        if name in ("yes", "mark", "same"):
            named = [rng.randrange(runs) for _ in range(numbers)]
            if name == "mark":
                named[0] = rng.randrange(4)
        else:
            named = [rng.randrange(max(0, at - 4), at) for _ in range(numbers)]
        lines.append((name, *named))
    return tuple(lines)


def some_machine(rng, most_states=4):
    """A machine, often without first states, or with states without steps."""
    count = rng.randrange(1, most_states + 1)
    often = rng.choice([0.3, 0.5, 0.8])
    return (count, tuple(p for p in range(count) if rng.random() < 0.5),
            tuple((p, q) for p in range(count) for q in range(count) if rng.random() < often),
            tuple(tuple(m for m in range(4) if rng.random() < 0.4) for _ in range(count)))


def runs_of(machine, longest_beginning, longest_round):
    """All runs of a machine that can be written with lists up to these lengths."""
    return [word for word in words(machine[0], longest_beginning, longest_round)
            if is_a_run(machine, word)]


def is_a_run(machine, word):
    """Whether a word begins with a first state and goes by steps, moment by moment."""
    moments = len(word[0]) + len(word[1])
    return letter_of(word, 0) in machine[1] and all(
        (letter_of(word, t), letter_of(word, t + 1)) in machine[2] for t in range(moments))


class Search:
    """Looks for some more runs beside told words, of which a condition says something.

    Nodes are a moment, the states of the runs, and what is guessed of the lines that
    are next or till. There are such runs if and only if a circle is reached in which
    no till waits for ever.
    """

    def __init__(self, machine, told, condition, more):
        self.machine, self.told, self.condition, self.more = machine, told, condition, more
        self.start, self.length = spans_of(told)
        self.guessed = [at for at, line in enumerate(condition) if line[0] in ("next", "till")]
        self.known = {}

    def truths(self, node):
        """What each line says at a node."""
        if node not in self.known:
            moment, states, guess = node
            now = [letter_of(word, moment) for word in self.told] + list(states)
            marks = [self.machine[3][p] for p in now]
            told = []
            for at, (name, *named) in enumerate(self.condition):
                told.append({
                    "yes": lambda: True,
                    "mark": lambda: named[0] in marks[named[1]],
                    "same": lambda: marks[named[0]] == marks[named[1]],
                    "not": lambda: not told[named[0]],
                    "both": lambda: told[named[0]] and told[named[1]],
                    "next": lambda: guess[self.guessed.index(at)],
                    "till": lambda: guess[self.guessed.index(at)],
                }[name]())
            self.known[node] = told
        return self.known[node]

    def fits(self, node, then):
        """Whether the guesses of a node are right if another one comes next."""
        now, later = self.truths(node), self.truths(then)
        for at in self.guessed:
            name, *named = self.condition[at]
            if name == "next":
                right = later[named[0]]
            else:
                right = now[named[1]] or now[named[0]] and later[at]
            if now[at] != right:
                return False
        return True

    def nodes(self, moment, states):
        return [(moment, states, guess) for guess in product((False, True), repeat=len(self.guessed))]

    def onward(self, node):
        moment, states, _ = node
        then = moment + 1 if moment + 1 < self.start + self.length else self.start
        rows = product(*[[q for p, q in self.machine[2] if p == state] for state in states])
        return [other for row in rows for other in self.nodes(then, row) if self.fits(node, other)]

    def finds(self, wanted):
        """Whether there are such runs with which the last line says what is wanted."""
        rows = product(self.machine[1], repeat=self.more)
        todo = [node for row in rows for node in self.nodes(0, row) if self.truths(node)[-1] == wanted]
        edges = {}
        while todo:
            node = todo.pop()
            if node not in edges:
                edges[node] = self.onward(node)
                todo.extend(edges[node])
        left = set(edges)
        goals = [left] + [{node for node in edges if self.truths(node)[named[1]] or not self.truths(node)[at]}
                          for at, (name, *named) in enumerate(self.condition) if name == "till"]
        size = None
        while size != len(left):
            size = len(left)
            for goal in goals:
                left = reaching(edges, left, goal & left)
        return bool(left)


def reaching(edges, inside, goal):
    """The nodes from which a walk of one step or more inside of some nodes ends at a goal."""
    back = {}
    for node in inside:
        for other in edges[node]:
            back.setdefault(other, []).append(node)
    found = set()
    todo = list(goal)
    while todo:
        for node in back.get(todo.pop(), []):
            if node not in found:
                found.add(node)
                todo.append(node)
    return found


def ways_letters(machine, reader):
    """The values that letters have for the ways of a machine, in the words of point 32."""
    count, _, steps, _ = machine
    return [tuple(sorted((p, q, reader[0][a * count + p]) for p, q in steps))
            for a in range(len(reader[0]) // count)]


def joined_ways(reader):
    """How values of the ways are joined."""
    mul = reader[1]
    return lambda x, y: tuple(sorted({(p, r, mul[u][v]) for p, q, u in x for m, r, v in y if m == q}))


def ways_values(machine, reader):
    """All values that words have for the ways of a machine, as many as there are."""
    return values_of(ways_letters(machine, reader), joined_ways(reader))


def ways_of(machine, reader):
    """The reader of the ways of a machine, however large."""
    told = dict.fromkeys(reader[2])
    joined = joined_ways(reader)
    known = ways_values(machine, reader)
    number = {x: at for at, x in enumerate(known)}
    table = tuple(tuple(number[joined(x, y)] for y in known) for x in known)
    pairs = [(s, f) for s, f in linked(table) if any(
        (u, v) in told for p, q, u in known[s] if p in machine[1]
        for m, r, v in known[f] if m == r == q)]
    return (tuple(number[x] for x in ways_letters(machine, reader)), table, tuple(pairs))


# Of two letters, 1 stands at endlessly many moments; at all but some; at the first one.
OFTEN = ((0, 1), ((0, 1), (1, 1)), ((1, 1),))
AT_LAST = ((0, 1), ((0, 0), (0, 1)), ((0, 1), (1, 1)))
FIRST = ((0, 1), ((0, 0), (1, 1)), ((1, 0), (1, 1)))
