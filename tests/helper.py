"""What several tests use: short names for kinds, deep kinds, and a way to ask."""

import copy

NUMBER = ("number",)
TRUTH = ("truth",)

# Names are one to eight small letters; some are like the words that kinds begin with.
EDGE_NAMES = ["a", "z", "abcdefgh", "zzzzzzzz", "any", "gap", "row", "pair", "work", "number", "truth"]

# Kinds lie at most 40 within one another, and what lies somewhat beyond is not refused.
DEPTHS = [1, 2, 39, 40, 41, 60]


def name(text):
    return ("any", text)


def gap(number):
    return ("gap", number)


def row(kind):
    return ("row", kind)


def pair(first, second):
    return ("pair", first, second)


def work(first, second):
    return ("work", first, second)


# The ways for a kind to lie straight within another one.
WRAPS = {
    "row": row,
    "left of a pair": lambda kind: pair(kind, NUMBER),
    "right of a pair": lambda kind: pair(NUMBER, kind),
    "first of a work": lambda kind: work(kind, TRUTH),
    "second of a work": lambda kind: work(TRUTH, kind),
}


def deep(wrap, depth, kind):
    for _ in range(depth):
        kind = wrap(kind)
    return kind


def ask(test, asked, *handed):
    """The answer to a call, asked twice; the answers must be the same, and what was handed in as it was."""
    ahead = copy.deepcopy(handed)
    answer = asked(*handed)
    test.assertEqual(handed, ahead)
    kept = copy.deepcopy(answer)
    again = asked(*handed)
    test.assertEqual(again, kept)
    test.assertEqual(answer, kept)
    test.assertEqual(handed, ahead)
    return answer
