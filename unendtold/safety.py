"""Safety, and what a beginning settles."""

from unendtold.making import linked_pairs
from unendtold.readers import value
from unendtold.values import denied, joint, tidy


def closure(reader):
    """Returns the reader of the words of which every beginning goes on to an accepted word."""
    letters, mul, accepted = tidy(reader)
    live = _live(mul, accepted)
    return (letters, mul, tuple([(s, f) for s, f in linked_pairs(mul) if live[s]]))


def _live(mul, accepted):
    """Returns for each value of a tidy reader whether it goes on to an accepted word.

    If s is a value followed by a, it is that value followed by a and f, for each
    linked pair (s, f): so all of these pairs are those of words that go on from it.
    """
    ends = {s: True for s, _ in accepted}
    return [any([s in ends for s in row]) for row in mul]


def live_part(reader):
    """Returns the reader of the words that a reader accepts or its closure does not."""
    return joint("either", reader, denied(closure(reader)))


def is_safety(reader):
    """Returns True if a reader accepts the same words as its closure."""
    # They have the same values, and each linked pair of a tidy reader is that of a word.
    return tidy(reader) == closure(reader)


def is_liveness(reader):
    """Returns True if every beginning goes on to some accepted word."""
    _, mul, accepted = tidy(reader)
    return all(_live(mul, accepted))


def settled(reader, beginning):
    """Returns True if all words with a beginning are accepted, False if none is, or None."""
    tidied = tidy(reader)
    _, mul, accepted = tidied
    pairs = linked_pairs(mul)
    if beginning:
        reached = mul[value(tidied, beginning)]
        pairs = [(s, f) for s, f in pairs if s in reached]
    told = [pair in accepted for pair in pairs]
    if all(told):
        return True
    return None if any(told) else False
