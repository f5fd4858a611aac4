"""Words and lines: what they are, and their order."""

MOST_WORDS = 12
FIGURES = "0123456789"
SMALL_LETTERS = "abcdefghijklmnopqrstuvwxyz"

# From ! to ~ but the percent sign, in the order in which texts compare.
WORD_SIGNS = (
    "!\"#$&'()*+,-./0123456789:;<=>?@ABCDEFGHIJKLMNOPQRSTUVWXYZ[\\]^_`abcdefghijklmnopqrstuvwxyz{|}~")


def has_only(text, signs):
    # Far quicker than a look at each sign by itself: logs go through all words of all lines again and again.
    return text != "" and text.strip(signs) == ""


def is_word(thing):
    """Tell of anything whether it is a word."""
    return isinstance(thing, str) and has_only(thing, WORD_SIGNS)


def kind_of(word):
    """Tell whether a word is a "number", a "name" or "other"."""
    if has_only(word.removeprefix("-"), FIGURES):
        return "number"
    if has_only(word, SMALL_LETTERS):
        return "name"
    return "other"


def words_of(line):
    """The words of a line, as a list."""
    # A blank is named, because without it split takes several blanks, and line feeds, for one.
    return line.split(" ")


def is_line(thing):
    """Tell of anything whether it is a line."""
    if not isinstance(thing, str):
        return False
    words = words_of(thing)
    return len(words) <= MOST_WORDS and all([is_word(word) for word in words])


def word_key(word):
    """What words compare by: fewer signs first, then as texts."""
    return (len(word), word)


def line_key(line):
    words = words_of(line)
    return (len(words), [word_key(word) for word in words])


def in_order(lines):
    """The lines in order, as a new list."""
    return sorted(lines, key=line_key)
