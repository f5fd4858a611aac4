"""Points 18 and 19 once more, by going through all lines of a few words."""

import itertools

import model

# Patterns of these words and of holes are known by the lines of WORDS, which has of each kind the least words, and
# one of these that no pattern has.
NAMED = ["0", "1", "-0", "a", "b", "aa", "!", '"', "A", "-"]
WORDS = NAMED + ["2", "c", "#"]


def word_order(word):
    return (len(word), word)


def line_order(words):
    return (len(words), [word_order(word) for word in words])


def takes(part, word):
    return part in (("word", word), ("hole", model.kind(word)), ("hole", "any"))


def lines_of(patterns):
    """All lines of WORDS that fit one of the patterns, as tuples of words."""
    lines = set()
    for pattern in patterns:
        lines.update(itertools.product(*[[word for word in WORDS if takes(part, word)] for part in pattern]))
    return lines


def parting(one, other):
    lines = lines_of(one) ^ lines_of(other)
    return " ".join(min(lines, key=line_order)) if lines else None


def needed(patterns):
    """The patterns without needless ones, looked for from the last on, again and again."""
    kept = [pattern for pattern, same in itertools.groupby(sorted(patterns, key=model.order))]
    while True:
        for pattern in reversed(kept):
            others = [other for other in kept if other != pattern]
            if lines_of([pattern]) <= lines_of(others):
                kept = others
                break
        else:
            return kept
