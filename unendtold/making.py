"""Making tidy readers of values that are known by keys, from the letters on.

A key is anything that can be a key of a dict. Values are found in the order of
their first words, and no more of them than a reader may have. Sets of values, or of
states, are masks where there are many: integers with a bit for each member.
"""

from unendtold.errors import TooManyValues
from unendtold.readers import MOST_VALUES


class Growth:
    """The values that are found so far, numbered as they are found.

    `known` has their keys, `heads` the value of each letter, and `onward[x][i]`
    is x followed by the letter value i: the values of letters are found first, so
    these are the numbers from 0 on. `origins[x]` is (p, i) if the first word of x
    is that of p followed by a letter of the value i, p being -1 for a letter.
    """

    def __init__(self):
        self.known = []
        self.numbers = {}
        self.origins = []
        self.heads = []
        self.onward = []

    def number_of(self, key, origin):
        """Returns the number of a key, a new one if it is found for the first time."""
        if key not in self.numbers:
            if len(self.known) == MOST_VALUES:
                raise TooManyValues("a reader has at most 300 values")
            self.numbers[key] = len(self.known)
            self.known.append(key)
            self.origins.append(origin)
        return self.numbers[key]


def grown(letters, times):
    """Returns the growth of all values of words.

    `letters` has the key of each letter, and times(x, y) is the key of a value x
    followed by the value y of a letter, both of them being keys, too.
    """
    growth = Growth()
    for key in letters:
        growth.heads.append(growth.number_of(key, (-1, len(growth.known))))
    heads = list(growth.known)
    while len(growth.onward) < len(growth.known):
        at = len(growth.onward)
        x = growth.known[at]
        row = [growth.number_of(times(x, y), (at, i)) for i, y in enumerate(heads)]
        growth.onward.append(row)
    return growth


def words_of(growth):
    """Returns the list of the first words of the values that are found."""
    words = []
    for p, i in growth.origins:
        beginning = words[p] if p >= 0 else []
        words.append(beginning + [growth.heads.index(i)])
    return words


def finished(growth, says):
    """Returns the tidy reader of a growth.

    says(s, f) tells of the numbers of a linked pair whether it is accepted.
    """
    mul = table_of(growth)
    accepted = tuple([(s, f) for s, f in linked_pairs(mul) if says(s, f)])
    return (tuple(growth.heads), mul, accepted)


def table_of(growth):
    """Returns the table of the joined values of a growth."""
    return tuple([_row_of(growth, x) for x in range(len(growth.known))])


def _row_of(growth, x):
    row = []
    for p, i in growth.origins:
        before = row[p] if p >= 0 else x
        row.append(growth.onward[before][i])
    return tuple(row)


def linked_pairs(mul):
    """Returns the list of all linked pairs of a table, ascending."""
    ends = settled_values(mul)
    return [(s, f) for s, row in enumerate(mul) for f in ends if row[f] == s]


def settled_values(mul):
    """Returns the values that do not change when joined with themselves."""
    return [f for f, row in enumerate(mul) if row[f] == f]


def made(letters, times, says):
    """Returns the tidy reader of all values of words, with letters as in grown.

    says(s, f) tells of the keys of a linked pair whether it is accepted.
    """
    growth = grown(letters, times)
    known = growth.known
    return finished(growth, lambda s, f: says(known[s], known[f]))


def of_first_letter(holds):
    """Returns the tidy reader of a word's first letter: holds[a] tells of the letter a."""
    return made(holds, lambda x, y: x, lambda s, f: s)


def mask_of(members):
    """Returns the mask of some numbers."""
    return union_of([1 << member for member in members])


def union_of(masks):
    """Returns the mask of the members of any of some masks."""
    union = 0
    for mask in masks:
        union |= mask
    return union


def members_of(mask):
    """Returns the list of the members of a mask, ascending."""
    members = []
    while mask:
        lowest = mask & -mask
        members.append(lowest.bit_length() - 1)
        mask ^= lowest
    return members
