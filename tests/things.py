"""Things for questions: of all sorts, for those that are told of anything (point 2), and lines."""

SINGLES = [
    0, 1, -1, 7, 12, 10 ** 39, -(10 ** 39), 10 ** 40 - 1, True, False, None,
    "", " ", "a", "a b", "word", "hole", "number", "name", "any", "7", "\n", "a\n",
]

PARTS = [("word", "a"), ("hole", "any"), ("hole", "number"), ("word", "-7")]


def pairs(things):
    return [(one, other) for one in things for other in things]


def anything():
    """Things of all sorts, up to four within one another."""
    found = list(SINGLES) + [[], ()]
    found += pairs(SINGLES)
    found += [list(pair) for pair in pairs(SINGLES)]
    for inner in list(SINGLES) + [[], ()] + PARTS:
        for once in ([inner], (inner,)):
            for twice in ([once], (once,), ("word", once), ("hole", once), (once, "a")):
                found += [once, twice, [twice], (twice,), [[twice]], ((twice,),)]
    return found


def some_lines(chance, many, most_words):
    """Lines of few words, so that many of them are alike at a place."""
    words = chance.choice(["ab", "abc", "abcd12", ["a", "7", "-7", "X", "bb", "12"], "abcdefghij"])
    wide = chance.randint(1, most_words)
    return [" ".join(chance.choice(words) for place in range(chance.choice([wide, wide, wide, max(1, wide - 1)])))
            for line in range(chance.randint(0, many))]
