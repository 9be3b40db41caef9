"""Values of words: readers that are made of readers, and words for them."""

from unendtold.making import finished, grown, made, mask_of, settled_values, union_of, words_of
from unendtold.readers import accepted_by, settled_value


def tidy(reader):
    """Returns the reader with the values of words alone, in their order."""
    told = accepted_by(reader)
    return made(reader[0], _times(reader), lambda s, f: (s, f) in told)


def denied(reader):
    """Returns the reader that accepts what this one does not."""
    told = accepted_by(reader)
    return made(reader[0], _times(reader), lambda s, f: (s, f) not in told)


def _times(reader):
    mul = reader[1]
    return lambda x, y: mul[x][y]


def joint(kind, first, second):
    """Returns two readers joined: "both", "either" or just "one" has to accept."""
    first_told = accepted_by(first)
    second_told = accepted_by(second)
    growth = joined_values(first, second)
    known = growth.known

    def says(s, f):
        one = (known[s][0], known[f][0]) in first_told
        two = (known[s][1], known[f][1]) in second_told
        return _joined(kind, one, two)

    return finished(growth, says)


def joined_values(first, second):
    """Returns the growth of the pairs of values that words have for two readers."""
    first_mul = first[1]
    second_mul = second[1]

    def times(x, y):
        return (first_mul[x[0]][y[0]], second_mul[x[1]][y[1]])

    return grown(list(zip(first[0], second[0])), times)


def _joined(kind, one, two):
    if kind == "both":
        return one and two
    if kind == "either":
        return one or two
    return one != two


def hidden(reader, seen, count):
    """Returns the reader of what is seen of the words that a reader accepts."""
    letters, mul, accepted = reader
    heads = [_members([v for v, c in zip(letters, seen) if c == b]) for b in range(count)]

    def times(some, more):
        return _members([mul[x][y] for x in some for y in more])

    growth = grown(heads, times)
    # Sets are masks here: there may be 90000 linked pairs of sets of 300 values.
    partners = [0 for _ in mul]
    for s, f in accepted:
        partners[f] |= 1 << s
    given = [mask_of(some) for some in growth.known]
    wanted = [union_of([partners[v] for v in some]) for some in growth.known]
    return finished(growth, lambda s, f: given[s] & wanted[f] != 0)


def _members(row):
    return tuple(sorted(set(row)))


def least(reader):
    """Returns the reader with one value for all values that make no difference."""
    letters, mul, accepted = tidy(reader)
    classes = _classes(letters, mul, accepted)
    lowest = [classes.index(c) for c in range(max(classes) + 1)]
    told = {(classes[s], classes[f]): True for s, f in accepted}

    def times(x, y):
        return classes[mul[lowest[x]][lowest[y]]]

    return made([classes[v] for v in letters], times, lambda s, f: (s, f) in told)


def _classes(letters, mul, accepted):
    """Returns for each value the number of its class.

    Values that are told apart by themselves are in different classes from the
    start, and then those that a letter before or behind them leads to different
    classes. All a and b of point 9 are words, so letters are enough; and a value
    before x in the round may as well stand at its end and in the beginning.
    """
    heads = sorted(set(letters))
    classes = _numbered(_signs(mul, {pair: True for pair in accepted}))
    many = 0
    while many < max(classes) + 1:
        many = max(classes) + 1
        classes = _numbered([_around(mul, heads, classes, x) for x in range(len(mul))])
    return classes


def _signs(mul, told):
    """Returns for each value what is said of it as a beginning and as a round."""
    ends = settled_values(mul)
    signs = []
    for x, row in enumerate(mul):
        f = settled_value(mul, x)
        begun = [(row[e], e) in told for e in ends]
        repeated = [(before[f], f) in told for before in mul]
        signs.append((*begun, *repeated, (f, f) in told))
    return signs


def _around(mul, heads, classes, x):
    behind = [classes[mul[x][y]] for y in heads]
    before = [classes[mul[y][x]] for y in heads]
    return (classes[x], *behind, *before)


def _numbered(signs):
    numbers = {}
    return [numbers.setdefault(sign, len(numbers)) for sign in signs]


def first_words(reader):
    """Returns the list of the first words of the values of the tidy reader."""
    return words_of(grown(reader[0], _times(reader)))


def some_word(reader):
    """Returns an endless word that a reader accepts, or None."""
    accepted = tidy(reader)[2]
    if not accepted:
        return None
    s, f = accepted[0]
    words = first_words(reader)
    return (list(words[s]), list(words[f]))


def parting(first, second):
    """Returns an endless word that just one of two readers accepts, or None."""
    return some_word(joint("one", first, second))
