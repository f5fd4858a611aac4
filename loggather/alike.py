"""Two lists of patterns: the least line that only one of them knows, and a list without what it does not need."""

from loggather.patterns import is_hole, is_within, ordered, part_takes
from loggather.words import WORD_SIGNS, kind_of, line_key, word_key


def least_word_but(kind, words):
    """The least word of a kind that is none of these."""
    texts = [""]
    while True:
        texts = [text + sign for text in texts for sign in WORD_SIGNS]
        for text in texts:
            if kind_of(text) == kind and text not in words:
                return text


def is_needless(pattern, others):
    """Tell whether each line of a pattern is a line of the others."""
    # Words have no end, so a line can have at each hole a word that none of the others names, and at a hole of any
    # one that is no number and no name. What takes this line takes each line of the pattern: one must do it alone.
    return any([is_within(pattern, other) for other in others])


def words_to_try(part, beside):
    """Words that fit a part, among them the least of all those that fit the same of the parts beside."""
    if not is_hole(part):
        return [part[1]]
    named = [other[1] for other in beside if not is_hole(other)]
    words = named + [least_word_but(kind, named) for kind in ("number", "name", "other")]
    return [word for word in words if part_takes(part, word)]


def behind(patterns, word):
    """What is left, behind their first part, of the patterns whose first part the word fits."""
    return [pattern[1:] for pattern in patterns if part_takes(pattern[0], word)]


def first_word_past(pattern, others):
    """The least word with which a line of a pattern begins that is no line of the others."""
    words = words_to_try(pattern[0], [other[0] for other in others])
    return min([word for word in words if not is_needless(pattern[1:], behind(others, word))], key=word_key)


def least_line_past(pattern, others):
    """The least line of a pattern that is no line of the others, or None."""
    if is_needless(pattern, others):
        return None
    rest = pattern
    left = [other for other in others if len(other) == len(pattern)]
    words = []
    while rest:
        word = first_word_past(rest, left)
        words.append(word)
        rest = rest[1:]
        left = behind(left, word)
    return " ".join(words)


def lines_past(patterns, others):
    lines = [least_line_past(pattern, others) for pattern in patterns]
    return [line for line in lines if line is not None]


def parting_line(one, other):
    """The least line that is a line of just one of two lists of patterns, or None."""
    return min(lines_past(one, other) + lines_past(other, one), key=line_key, default=None)


def without_needless(patterns):
    """The patterns in order, each once, without those that the others make needless."""
    kept = ordered(patterns)
    for place in reversed(range(len(kept))):
        others = kept[:place] + kept[place + 1:]
        if is_needless(kept[place], others):
            kept = others
    return kept
