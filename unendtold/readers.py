"""Readers: finite tables that decide for each endless word."""

MOST_VALUES = 300


def fault(count, reader):
    """Returns None if a reader of `count` letters fits, otherwise its first fault."""
    letters, mul, accepted = reader
    many = len(mul)
    if many < 1 or many > MOST_VALUES:
        return ("values",)
    if len(letters) != count or not are_below(letters, many):
        return ("letters",)
    for x, row in enumerate(mul):
        if len(row) != many or not are_below(row, many):
            return ("mul", x)
    if not _are_linked(mul, accepted) or not is_ascending(accepted):
        return ("accepted",)
    wrong = _order_fault(mul)
    if wrong is None:
        wrong = _turn_fault(mul, accepted)
    return wrong


def are_below(row, many):
    """Returns True if all of some integers are from 0 to `many` - 1."""
    return all([0 <= v < many for v in row])


def _are_linked(mul, pairs):
    for pair in pairs:
        if len(pair) != 2 or not are_below(pair, len(mul)):
            return False
        s, f = pair
        if mul[s][f] != s or mul[f][f] != f:
            return False
    return True


def is_ascending(row):
    """Returns True if a tuple is in strictly ascending order."""
    return all([one < two for one, two in zip(row, row[1:])])


def _order_fault(mul):
    for x, row in enumerate(mul):
        for y, behind in enumerate(mul):
            # Whole rows are compared: one by one, 300 values would take long.
            first_joined = list(mul[row[y]])
            last_joined = [row[v] for v in behind]
            if first_joined != last_joined:
                return ("order", x, y, _first_difference(first_joined, last_joined))
    return None


def _first_difference(one, two):
    at = 0
    while one[at] == two[at]:
        at += 1
    return at


def _turn_fault(mul, accepted):
    told = [[False] * len(mul) for _ in mul]
    for s, f in accepted:
        told[s][f] = True
    turns = [_turns(mul, x) for x in range(len(mul))]
    for s, row in enumerate(mul):
        for x, turned in enumerate(row):
            for f, g, y in turns[x]:
                if row[f] == s and told[s][f] != told[turned][g]:
                    return ("turn", s, x, y)
    return None


def _turns(mul, x):
    """Returns (xy, yx, y) for the y with which both of these are settled.

    Of several y with the same products only the lowest one is taken: the others
    have the same fault or none.
    """
    lowest = {}
    for y, row in enumerate(mul):
        f = mul[x][y]
        g = row[x]
        if mul[f][f] == f and mul[g][g] == g and (f, g) not in lowest:
            lowest[(f, g)] = y
    return [(f, g, y) for (f, g), y in lowest.items()]


def value(reader, row):
    """Returns the value of a list of letters that is not empty."""
    letters, mul, _ = reader
    found = letters[row[0]]
    for letter in row[1:]:
        found = mul[found][letters[letter]]
    return found


def settled_value(mul, x):
    """Returns the first power of x that does not change when joined with itself."""
    power = x
    while mul[power][power] != power:
        power = mul[power][x]
    return power


def pair_of(reader, word):
    """Returns the linked pair of an endless word."""
    beginning, again = word
    mul = reader[1]
    f = settled_value(mul, value(reader, again))
    if not beginning:
        return (f, f)
    return (mul[value(reader, beginning)][f], f)


def accepts(reader, word):
    """Returns True if a reader accepts an endless word."""
    return pair_of(reader, word) in reader[2]


def accepted_by(reader):
    """Returns a dict whose keys are the accepted pairs of a reader."""
    return {pair: True for pair in reader[2]}
