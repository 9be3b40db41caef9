"""The way back: formulas of acceptors."""

from unendtold.errors import TooManyLines

MOST_LINES = 5000


class Page:
    """Lines about some given sets, and one set more for each state of an acceptor.

    Each method writes lines behind those that are there, all lines of a part before
    its own one, and returns the number of its last line.
    """

    def __init__(self, sets, states):
        self.sets = sets
        self.states = states
        self.lines = []

    def put(self, line):
        """Writes a line."""
        if len(self.lines) == MOST_LINES:
            raise TooManyLines("a formula has at most 5000 lines")
        self.lines.append(line)
        return len(self.lines) - 1

    def fold(self, name, parts, rest):
        """Joins each part, from the last one on, with all that is behind it."""
        for part in reversed(parts):
            rest = self.put((name, part, rest))
        return rest

    def all_of(self, parts):
        """Writes ALL of parts that are written already."""
        inside = self.put(("set", 0))
        outside = self.put(("not", self.put(("set", 0))))
        never = self.put(("and", inside, outside))
        return self.fold("and", parts, self.put(("not", never)))

    def exactly(self, first, told):
        """Writes ALL of the sets from a first one on, or `not` of them, as told."""
        parts = []
        for i, inside in enumerate(told):
            part = self.put(("set", first + i))
            parts.append(part if inside else self.put(("not", part)))
        return self.all_of(parts)

    def at(self, p):
        """Writes AT(p)."""
        return self.exactly(self.sets, [q == p for q in range(self.states)])

    def letter(self, a):
        """Writes LETTER(a)."""
        return self.exactly(0, [a >> i & 1 == 1 for i in range(self.sets)])

    def at_some(self, chosen):
        """Writes ANY of AT(p) for each state p that is chosen."""
        parts = [self.put(("not", self.at(p))) for p in chosen]
        return self.put(("not", self.all_of(parts)))


def formula_for(acceptor, sets):
    """Returns the formula of an acceptor whose letters are those of so many sets."""
    letters, states, firsts, steps, again = acceptor
    onward = {}
    for p, a, q in steps:
        onward.setdefault((p, a), []).append(q)
    page = Page(sets, states)
    parts = [page.put(("all", page.at_some(list(range(states))))),
             page.put(("first", page.at_some(firsts)))]
    for p in range(states):
        for a in range(letters):
            here = page.at(p)
            now = page.put(("and", here, page.letter(a)))
            then = page.at_some(onward.get((p, a), []))
            parts.append(page.put(("step", now, then)))
    whole = page.fold("both", parts, page.put(("often", page.at_some(again))))
    for _ in range(states):
        whole = page.put(("there", whole))
    return tuple(page.lines)
