"""Machines and their runs, and sentences that compare runs."""

from unendtold.conditions import MANY_MARKS, condition_reader, is_condition
from unendtold.making import finished, grown, mask_of, members_of, union_of
from unendtold.readers import accepted_by, accepts, are_below, is_ascending, settled_value, value
from unendtold.values import denied, least
from unendtold.words import shortest, side_by_side

MOST_STATES = 4
QUANTIFIERS = ("all", "some")


def is_machine(machine):
    """Returns True if a tuple of four members is a machine."""
    states, firsts, steps, marks = machine
    if not 1 <= states <= MOST_STATES or len(marks) != states:
        return False
    if not all([are_below(step, states) for step in steps]):
        return False
    if not all([are_below(row, MANY_MARKS) for row in marks]):
        return False
    return are_below(firsts, states) and all([is_ascending(row) for row in (firsts, steps, *marks)])


def is_run(machine, word):
    """Returns True if a word of states is a run of a machine."""
    beginning, again = word
    row = beginning + again + again[:1]
    steps = {step: True for step in machine[2]}
    return row[0] in machine[1] and all([step in steps for step in zip(row, row[1:])])


def is_sentence(sentence):
    """Returns True if a pair of quantifiers and of a tuple of lines is a sentence."""
    quantifiers, condition = sentence
    if not all([word in QUANTIFIERS for word in quantifiers]):
        return False
    return is_condition(condition, len(quantifiers))


def decide(machine, sentence):
    """Returns True if a sentence holds for a machine."""
    return accepts(_reader_behind(machine, sentence, 0), ([], [0]))


def answer(machine, sentence, told):
    """Returns whether what is left of a sentence behind told runs holds, and a run that shows it.

    The run is None if no run shows it, or if there is no quantifier left.
    """
    quantifiers = sentence[0]
    word = side_by_side(told, machine[0])
    if len(told) == len(quantifiers):
        return (accepts(_reader_behind(machine, sentence, len(told)), word), None)
    quantifier = quantifiers[len(told)]
    ways = _ways(machine, quantifier, _reader_behind(machine, sentence, len(told) + 1))
    run = ways.run_beside(word)
    return ((run is not None) == (quantifier == "some"), run)


def _reader_behind(machine, sentence, many):
    """Returns the reader of what is left of a sentence behind so many quantifiers."""
    quantifiers, condition = sentence
    reader = condition_reader(machine, condition, len(quantifiers))
    for quantifier in reversed(quantifiers[many:]):
        shown = least(_ways(machine, quantifier, reader).reader)
        reader = shown if quantifier == "some" else denied(shown)
    return reader


def _ways(machine, quantifier, reader):
    """Returns the ways of the runs that show what a quantifier says: for "all", that it fails."""
    return Ways(machine, reader if quantifier == "some" else denied(reader))


class Ways:
    """The ways of a machine beside words, and a run that a reader accepts beside one.

    The values of stretches are known[x], numbered by `reader`, the reader of the
    ways: tuples that have at p * states + q the mask of all v for which (p, q, v)
    belongs to the value. `firsts`, `letters` and `mul` are those of the machine and
    of the reader that reads its run as the last one.
    """

    def __init__(self, machine, reader):
        self.states = machine[0]
        self.firsts = machine[1]
        self.letters = reader[0]
        self.mul = reader[1]
        self.partners = _partners(reader)
        self.moves = {}
        self.images = {}
        growth = self._grown(machine[2])
        self.known = growth.known
        self.begun = [self._begun(x) for x in self.known]
        self.wanted = [self._wanted(x) for x in self.known]
        self.reader = self._finished(growth)

    def _grown(self, steps):
        """Returns the growth of the values that stretches have."""
        count = len(self.letters) // self.states
        heads = [self._letter_value(steps, a) for a in range(count)]
        return grown(heads, lambda x, y: self._times(x, y))

    def _finished(self, growth):
        """Returns the reader of the ways."""
        return finished(growth, lambda s, f: any(self._meetings(s, f)))

    def _letter_value(self, steps, a):
        """Returns the value of a letter, and keeps the steps (p, q, v) that it is made of."""
        moves = [(p, q, self.letters[a * self.states + p]) for p, q in steps]
        masks = [0] * (self.states * self.states)
        for p, q, v in moves:
            masks[p * self.states + q] = 1 << v
        self.moves[tuple(masks)] = moves
        return tuple(masks)

    def _times(self, x, y):
        """Returns the value of a stretch followed by a letter with the value y."""
        masks = [0] * len(x)
        for q, r, w in self.moves[y]:
            for row in range(0, len(x), self.states):
                masks[row + r] |= self._image(x[row + q], w)
        return tuple(masks)

    def _image(self, some, w):
        """Returns the mask of the values in a mask, each of them followed by w."""
        if (some, w) not in self.images:
            self.images[(some, w)] = mask_of([self.mul[v][w] for v in members_of(some)])
        return self.images[(some, w)]

    def _begun(self, x):
        """Returns for each state q with which values a first state leads to it."""
        return [union_of([x[p * self.states + q] for p in self.firsts]) for q in range(self.states)]

    def _wanted(self, x):
        """Returns for each state q the partners of the values with which it leads to itself."""
        loops = [members_of(x[q * self.states + q]) for q in range(self.states)]
        return [union_of([self.partners[v] for v in some]) for some in loops]

    def _meetings(self, s, f):
        """Returns for each state q with which values s leads to it so that f may come for ever."""
        return [begun & wanted for begun, wanted in zip(self.begun[s], self.wanted[f])]

    def run_beside(self, word):
        """Returns a run that the reader accepts beside a word, or None."""
        before, again = word
        starts = self._followed(before + again, again)
        for turns, f in enumerate(self._followed(again, again)):
            for ahead, s in enumerate(starts):
                for q, some in enumerate(self._meetings(s, f)):
                    if some:
                        u = members_of(some)[0]
                        beginning = self._beginning(before + again * (ahead + 1), q, u)
                        return shortest((beginning, self._round(again * (turns + 1), q, u)))
        return None

    def _followed(self, row, again):
        """Returns the numbers of a row of letters, and of it with 1, 2 .. rounds behind it.

        The list ends where a number would come again.
        """
        mul = self.reader[1]
        x = value(self.reader, row)
        y = value(self.reader, again)
        found = []
        while x not in found:
            found.append(x)
            x = mul[x][y]
        return found

    def _beginning(self, row, q, u):
        """Returns states for a row of letters, from a first one to q, with the value u."""
        x = self.known[value(self.reader, row)]
        starts = [p for p in self.firsts if x[p * self.states + q] >> u & 1]
        return self._states_for(row, starts[0], q, u)

    def _round(self, row, q, u):
        """Returns states for a row of letters, from q back to q, that may come behind u for ever."""
        x = self.known[value(self.reader, row)]
        loops = [v for v in members_of(x[q * self.states + q]) if self.partners[v] >> u & 1]
        return self._states_for(row, q, q, loops[0])

    def _states_for(self, row, p, q, v):
        """Returns states for a row of letters, from p to q, with the value v."""
        heads, mul, _ = self.reader
        numbers = [heads[row[0]]]
        for a in row[1:-1]:
            numbers.append(mul[numbers[-1]][heads[a]])
        states = []
        for a, x in reversed(list(zip(row[1:], numbers))):
            q, v = self._step_before(self.known[x], self.known[heads[a]], p, (q, v))
            states.append(q)
        return [p] + list(reversed(states))

    def _step_before(self, x, y, p, end):
        """Returns a state and a value with which x leads from p to it, and y on to `end`."""
        found = [(m, u) for m, r, w in self.moves[y]
                 for u in members_of(x[p * self.states + m]) if (r, self.mul[u][w]) == end]
        return found[0]


def _partners(reader):
    """Returns for each value v the mask of the values u such that the reader accepts u, v, v ..

    In a linked pair it makes no difference that u and v need not be linked here:
    it has u followed by the settled value of v, and this settled value, too.
    """
    mul = reader[1]
    told = accepted_by(reader)
    ends = [settled_value(mul, v) for v in range(len(mul))]
    return [mask_of([u for u, row in enumerate(mul) if (row[f], f) in told]) for f in ends]
