"""Helpers of the tests: calls that also look at what was handed in."""

import copy


def asked(test, function, *things):
    """The answer of a call, behind which the things must be as they were."""
    before = repr(things)
    answer = function(*things)
    test.assertEqual(repr(things), before, "what was handed in has changed")
    return answer


def refused(test, error, function, *things):
    """The error of a call, which must be of just this class."""
    before = repr(things)
    try:
        answer = function(*things)
    except Exception as caught:
        test.assertIs(type(caught), error)
        test.assertEqual(repr(things), before, "what was handed in has changed")
        return caught
    test.fail(f"{error.__name__} is due, but told was {answer!r}")


def asked_twice(test, function, *things):
    """The answer of a call, which must be the asker's own and come a second time."""
    first = asked(test, function, *things)
    kept = copy.deepcopy(first)
    spoil(first)
    second = asked(test, function, *things)
    test.assertEqual(second, kept)
    return second


def spoil(thing):
    """Change every list in an answer, as its asker may."""
    if isinstance(thing, (list, tuple)):
        for item in thing:
            spoil(item)
    if isinstance(thing, list):
        thing.append("spoilt")


def lists_in(thing):
    """All lists in a thing, itself too."""
    found = [thing] if isinstance(thing, list) else []
    if isinstance(thing, (list, tuple)):
        for item in thing:
            found += lists_in(item)
    return found


def is_own(answer, *things):
    """Whether no list of an answer stands in it twice, or in what was handed in."""
    own = [id(one) for one in lists_in(answer)]
    handed = [id(one) for one in lists_in(things)]
    return len(own) == len(set(own)) and not set(own) & set(handed)
