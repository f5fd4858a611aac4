"""Patterns: lists of parts, each of them a word or a hole."""

from loggather.errors import NoFit, NoJoin
from loggather.words import is_word, kind_of, word_key, words_of

MOST_PARTS = 12

# In the order in which holes are sorted.
HOLE_KINDS = ("number", "name", "any")


def is_part(thing):
    if not isinstance(thing, tuple) or len(thing) != 2:
        return False
    if thing[0] == "word":
        return is_word(thing[1])
    return thing[0] == "hole" and thing[1] in HOLE_KINDS


def is_pattern(thing):
    """Tell of anything whether it is a pattern."""
    if not isinstance(thing, list):
        return False
    return 1 <= len(thing) <= MOST_PARTS and all([is_part(part) for part in thing])


def is_hole(part):
    return part[0] == "hole"


def part_takes(part, word):
    """Tell of any text whether it is a word that fits the part."""
    if not is_hole(part):
        return word == part[1]
    if part[1] == "any":
        return is_word(word)
    return kind_of(word) == part[1]


def all_taken(parts, words):
    if len(parts) != len(words):
        return False
    for part, word in zip(parts, words):
        if not part_takes(part, word):
            return False
    return True


def fits(pattern, line):
    """Tell whether a line fits a pattern."""
    return all_taken(pattern, words_of(line))


def fillings(pattern, line):
    """The words of a line at the holes of a pattern, or NoFit."""
    words = words_of(line)
    if not all_taken(pattern, words):
        raise NoFit("the line does not fit the pattern")
    return [word for part, word in zip(pattern, words) if is_hole(part)]


def filled(pattern, words):
    """The line that has these words at the holes of a pattern, or NoFit."""
    if not all_taken([part for part in pattern if is_hole(part)], words):
        raise NoFit("the words do not fit the holes of the pattern")
    rest = list(words)
    told = []
    for part in pattern:
        told.append(rest.pop(0) if is_hole(part) else part[1])
    return " ".join(told)


def is_part_within(one, other):
    """Tell whether each word that fits the part fits the other one, too."""
    if not is_hole(one):
        return part_takes(other, one[1])
    # Numbers and names have no end, so no word has all that fit a hole.
    return other == one or other == ("hole", "any")


def is_within(one, other):
    """Tell whether each line that fits the pattern fits the other one, too."""
    if len(one) != len(other):
        return False
    return all([is_part_within(part, wider) for part, wider in zip(one, other)])


def kind_of_hole_around(part):
    """The kind of the narrowest hole within which a part is."""
    if is_hole(part):
        return part[1]
    kind = kind_of(part[1])
    return kind if kind in HOLE_KINDS else "any"


def joined_part(parts):
    if all([part == parts[0] for part in parts]):
        return parts[0]
    kinds = [kind_of_hole_around(part) for part in parts]
    if all([kind == kinds[0] for kind in kinds]):
        return ("hole", kinds[0])
    return ("hole", "any")


def joined(patterns):
    """The narrowest pattern within which all of these are, or NoJoin."""
    if len(patterns) == 0:
        raise NoJoin("there is no pattern to join")
    width = len(patterns[0])
    if any([len(pattern) != width for pattern in patterns]):
        raise NoJoin("the patterns have unlike numbers of parts")
    return [joined_part([pattern[at] for pattern in patterns]) for at in range(width)]


def met_part(one, other):
    # Of two parts that share a word one is always within the other.
    if is_part_within(one, other):
        return one
    if is_part_within(other, one):
        return other
    return None


def met(one, other):
    """The pattern of just the lines that fit both patterns, or None."""
    if len(one) != len(other):
        return None
    parts = [met_part(part, beside) for part, beside in zip(one, other)]
    if any([part is None for part in parts]):
        return None
    return parts


def part_key(part):
    """What parts compare by: words, in their order, ahead of holes."""
    if is_hole(part):
        return (1, HOLE_KINDS.index(part[1]), "")
    length, text = word_key(part[1])
    return (0, length, text)


def pattern_key(pattern):
    return (len(pattern), [part_key(part) for part in pattern])


def ordered(patterns):
    """The patterns in order, as a new list of new lists."""
    return [list(pattern) for pattern in sorted(patterns, key=pattern_key)]
