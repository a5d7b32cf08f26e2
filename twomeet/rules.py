"""The rules of the steps: what a core becomes whose parts are at their end, but not itself.

Ends may be marked, here and in what is given back.
"""

from twomeet.definitions import core_at
from twomeet.errors import Stray
from twomeet.walks import bare, put_in

YES = ("yes",)
NO = ("no",)


def becomes(shelf, core):
    """The core behind its own step; Stray where no rule is for it."""
    word = core[0]
    if word == "call":
        return call_becomes(core[1], core[2])
    if word in ("left", "right"):
        side = 1 if word == "left" else 2
        return taken_apart(core[1], "both")[side]
    if word == "if":
        return if_becomes(core)
    if word == "fold":
        return fold_becomes(core[1], core[2], core[3])
    if word == "sum":
        return ("number", taken_apart(core[1], "number")[1] + taken_apart(core[2], "number")[1])
    if word == "less":
        return truth(taken_apart(core[1], "number")[1] < taken_apart(core[2], "number")[1])
    if word == "def":
        return core_at(shelf, core[1], core[2])
    raise Stray("no step is for the core")


def truth(holds):
    """The core of a truth."""
    return YES if holds else NO


def taken_apart(core, word):
    """The core, without a mark, where it begins with the word."""
    if bare(core)[0] != word:
        raise Stray("a core is used for what it is not")
    return bare(core)


def call_becomes(called, part):
    """What a call becomes: of a fun, or of a likeness that is called with one already."""
    work = bare(called)
    if work[0] == "fun":
        return put_in(work[2], part)
    if work[0] == "call":
        return likeness_becomes(bare(work[1]), bare(work[2]), bare(part))
    raise Stray("what is called is no work")


def if_becomes(core):
    """What an if becomes."""
    word = bare(core[1])[0]
    if word == "yes":
        return core[2]
    if word == "no":
        return core[3]
    raise Stray("the first part of an if is no truth")


def fold_becomes(row, start, work):
    """What a fold becomes."""
    if bare(row)[0] == "none":
        return start
    more = taken_apart(row, "more")
    return ("call", ("call", work, more[1]), ("fold", more[2], start, work))


def likeness_becomes(like, first, second):
    """What a likeness becomes that is called with two."""
    if like[0] == "like":
        return like_becomes(like[1], first, second)
    if like[0] == "likerow":
        return likerow_becomes(like, first, second)
    left = asked(like[1], taken_apart(first, "both")[1], taken_apart(second, "both")[1])
    return ("if", left, asked(like[2], first[2], second[2]), NO)


def asked(like, first, second):
    """The core of a likeness called with both."""
    return ("call", ("call", like, first), second)


def like_becomes(kind, first, second):
    """Whether two numbers, or two truths, as the kind tells, are the same."""
    if kind[0] == "number":
        return truth(taken_apart(first, "number")[1] == taken_apart(second, "number")[1])
    if first[0] not in ("yes", "no") or second[0] not in ("yes", "no"):
        raise Stray("a likeness of truths is called with what is none")
    return truth(first[0] == second[0])


def likerow_becomes(like, first, second):
    """What a row's likeness becomes that is called with two."""
    if first[0] not in ("none", "more") or second[0] not in ("none", "more"):
        raise Stray("a likeness of rows is called with what is none")
    if first[0] == "none" or second[0] == "none":
        return truth(first[0] == second[0])
    return ("if", asked(like[1], first[1], second[1]), asked(like, first[2], second[2]), NO)
