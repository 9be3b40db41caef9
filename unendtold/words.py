"""Endless words: pairs of a beginning and of what comes again and again."""

from math import lcm


def letter_at(word, moment):
    """Returns the letter that an endless word has at a moment."""
    beginning, again = word
    if moment < len(beginning):
        return beginning[moment]
    return again[(moment - len(beginning)) % len(again)]


def spans(words):
    """Returns the lengths of the beginning and of the round of words together."""
    start = 0
    period = 1
    for beginning, again in words:
        start = max(start, len(beginning))
        period = lcm(period, len(again))
    return (start, period)


def side_by_side(words, count):
    """Returns the word whose letters have those of the words as digits, 0 for no words."""
    start, period = spans(words)
    row = [_joined_letter(words, count, moment) for moment in range(start + period)]
    return (row[:start], row[start:])


def _joined_letter(words, count, moment):
    joined = 0
    for word in words:
        joined = joined * count + letter_at(word, moment)
    return joined


def is_same(one, two):
    """Returns True if two words have the same letter at every moment."""
    start = max(len(one[0]), len(two[0]))
    # Rows of the periods p and q that agree at p + q moments agree for ever, so
    # their least common multiple, which may be huge, need not be walked through.
    end = start + len(one[1]) + len(two[1])
    for moment in range(end):
        if letter_at(one, moment) != letter_at(two, moment):
            return False
    return True


def shortest(word):
    """Returns the same word with the shortest round and the shortest beginning."""
    beginning, again = word
    period = _period(again)
    end = len(beginning)
    while end > 0 and beginning[end - 1] == again[(end - 1 - len(beginning)) % period]:
        end -= 1
    start = (end - len(beginning)) % period
    return (beginning[:end], again[start:period] + again[:start])


def _period(row):
    """Returns the length of the shortest row that makes up a row again and again."""
    for size in range(1, len(row)):
        if len(row) % size == 0 and row[size:] == row[:-size]:
            return size
    return len(row)
