"""Acceptors: states and steps, and runs that meet some states again and again."""

from unendtold.making import finished, grown, mask_of, members_of, union_of
from unendtold.readers import accepts, are_below, is_ascending
from unendtold.values import tidy

MOST_LETTERS = 64
MOST_STATES = 12


def is_acceptor(acceptor):
    """Returns True if a tuple is an acceptor with at most 12 states."""
    letters, states, firsts, steps, again = acceptor
    if not 1 <= letters <= MOST_LETTERS or not 1 <= states <= MOST_STATES:
        return False
    for p, a, q in steps:
        if not are_below((p, q), states) or not are_below((a,), letters):
            return False
    return is_ascending(steps) and _are_states(firsts, states) and _are_states(again, states)


def _are_states(row, states):
    return are_below(row, states) and is_ascending(row)


class Rows:
    """Where the runs from one state lead over a word, numbered as this is found.

    known[r] is a pair of masks of states: those that are reached, and those that
    are reached by a run with a state of `again` before its last state. A value of
    words is the tuple of the numbers for all states that a run may begin with.
    """

    def __init__(self):
        self.known = []
        self.reached = []
        self.numbers = {}
        self.onward = {}

    def row_number(self, row):
        """Returns the number of a pair of masks."""
        if row not in self.numbers:
            self.numbers[row] = len(self.known)
            self.known.append(row)
            self.reached.append(members_of(row[0]))
        return self.numbers[row]

    def letter_value(self, ends, endless):
        """Returns the value of a letter with steps from each state p to those of ends[p]."""
        rows = [(mask, mask if endless >> p & 1 else 0) for p, mask in enumerate(ends)]
        return tuple([self.row_number(row) for row in rows])

    def times(self, x, y):
        """Returns the value of words with the value x followed by one with the value y."""
        # Many values have the same rows, so what y makes of a row is kept.
        found = self.onward.setdefault(y, {})
        for r in x:
            if r not in found:
                found[r] = self.row_number(self._behind(r, y))
        return tuple([found[r] for r in x])

    def _behind(self, r, y):
        reached = 0
        met = 0
        seen = self.known[r][1]
        for q in self.reached[r]:
            ends, met_ends = self.known[y[q]]
            reached |= ends
            met |= ends if seen >> q & 1 else met_ends
        return (reached, met)

    def begun(self, firsts, x):
        """Returns the mask of the states that are reached from the first states."""
        return union_of([self.known[x[p]][0] for p in firsts])

    def rounds(self, x):
        """Returns the mask of the states that are reached from themselves, `again` being met."""
        return mask_of([q for q, r in enumerate(x) if self.known[r][1] >> q & 1])


def reader_of(acceptor):
    """Returns the tidy reader of an acceptor."""
    letters, states, firsts, steps, again = acceptor
    ends = [[0] * states for _ in range(letters)]
    for p, a, q in steps:
        ends[a][p] |= 1 << q
    rows = Rows()
    heads = [rows.letter_value(row, mask_of(again)) for row in ends]
    growth = grown(heads, lambda x, y: rows.times(x, y))
    begun = [rows.begun(firsts, x) for x in growth.known]
    rounds = [rows.rounds(x) for x in growth.known]
    return finished(growth, lambda s, f: begun[s] & rounds[f] != 0)


def takes(acceptor, word):
    """Returns True if an acceptor takes an endless word."""
    return accepts(reader_of(acceptor), word)


def acceptor_of(reader):
    """Returns the acceptor of a reader.

    Its states are blocks of equal width: the first one for the beginning, one
    behind it for each accepted pair. Each block begins with its state 0 or gate.
    """
    letters, mul, accepted = tidy(reader)
    width = len(mul) + 1
    steps = []
    for block in range(len(accepted) + 1):
        doors = _doors(accepted, block, width)
        for place in range(width):
            for a, y in enumerate(letters):
                x = mul[place - 1][y] if place > 0 else y
                ends = [block * width + 1 + x] + doors.get(x, [])
                steps.extend([(block * width + place, a, q) for q in sorted(ends)])
    gates = tuple([width + i * width for i in range(len(accepted))])
    return (len(letters), width + len(gates) * width, (0,), tuple(steps), gates)


def _doors(accepted, block, width):
    """Returns the gates that are reached beside the values in a block."""
    if block > 0:
        f = accepted[block - 1][1]
        return {f: [block * width]}
    doors = {}
    for i, (s, _) in enumerate(accepted):
        doors.setdefault(s, []).append(width + i * width)
    return doors
