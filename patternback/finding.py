"""Finding: the matches of a pattern in a text."""

from patternback.nets import net_of
from patternback.reading import read
from patternback.trying import Trial, tried


def first(pattern, text):
    """Give the pattern's first match, a pair of its place and its length, or None."""
    return tried(net_of(read(pattern)), text)


def all_found(pattern, text):
    """List the pattern's matches, one behind the other."""
    # One trial for all of them: what leads to no match from one place doesn't from a later one either.
    trial = Trial(net_of(read(pattern)), text)
    found = []
    place = 0
    while place <= len(text):
        told = trial.first_from(place)
        if told is None:
            return found
        found.append(told)
        begin, length = told
        place = begin + max(length, 1)
    return found
