"""Gathering: the patterns that are found from lines."""

from loggather.patterns import joined, ordered
from loggather.words import words_of

# The sieve where none is handed in.
PLAIN_SIEVE = (3, 2)


def grouped(rows, keys):
    """The rows in groups, one for each of the keys that stand beside them."""
    groups = {}
    for row, key in zip(rows, keys):
        groups.setdefault(key, []).append(row)
    return list(groups.values())


def words_at(group, place):
    return [words[place] for words in group]


def many_unlike_at(group, place):
    return len(set(words_at(group, place)))


def is_fit_to_part_at(group, place, sieve):
    spread, least = sieve
    words = words_at(group, place)
    unlike = sorted(set(words))
    return 2 <= len(unlike) <= spread and all([words.count(word) >= least for word in unlike])


def place_to_part_at(group, sieve):
    """The place at which a group is parted next, or None."""
    places = [place for place in range(len(group[0])) if is_fit_to_part_at(group, place, sieve)]
    # Of places with equally many unlike words min tells the first.
    return min(places, key=lambda place: many_unlike_at(group, place), default=None)


def parted(group, sieve):
    """The groups into which a group is parted until none can be parted any more."""
    place = place_to_part_at(group, sieve)
    if place is None:
        return [group]
    groups = []
    for smaller in grouped(group, words_at(group, place)):
        groups.extend(parted(smaller, sieve))
    return groups


def pattern_of_group(group):
    return joined([[("word", word) for word in words] for words in group])


def gathered(lines, sieve=PLAIN_SIEVE):
    """The patterns that are found from the lines, in order."""
    rows = [words_of(line) for line in sorted(set(lines))]
    patterns = []
    for group in grouped(rows, [len(words) for words in rows]):
        patterns.extend([pattern_of_group(smaller) for smaller in parted(group, sieve)])
    return ordered(patterns)
