"""The kind of a core, in which all kinds are told."""

from twomeet.definitions import kind_at
from twomeet.errors import Stray
from twomeet.kinds import NUMBER, TRUTH
from twomeet.likes import likeness_kind
from twomeet.walks import walked


def core_kind(shelf, context, core):
    """The kind of a core; context is a list of the kinds that are bound around it, the innermost last."""

    def answer(part, bound, kinds):
        if len(kinds) == 0:
            return leaf_kind(shelf, bound, part)
        return kind_by_parts(part, kinds)

    return walked(core, context, answer)


def want(kind, wanted):
    """Stray where a kind is not the very one that is wanted."""
    if kind != wanted:
        raise Stray("a part of a core is of another kind than is wanted")


def want_word(kind, word):
    """Stray where a kind does not begin with the word."""
    if kind[0] != word:
        raise Stray("a part of a core is not of a kind that is wanted")


def leaf_kind(shelf, bound, core):
    """The kind of a core without parts."""
    if core[0] == "number":
        return NUMBER
    if core[0] == "var":
        return var_kind(bound, core[1])
    if core[0] == "none":
        return ("row", core[1])
    if core[0] == "def":
        return kind_at(shelf, core[1], core[2])
    if core[0] == "like":
        return like_kind(core[1])
    return TRUTH


def var_kind(bound, rounds):
    """The kind that is bound so many rounds out."""
    if rounds < 0 or rounds >= len(bound):
        raise Stray("a var is not bound")
    return bound[len(bound) - 1 - rounds]


def like_kind(kind):
    """The kind of a like, which is of numbers or truths alone."""
    if kind not in (NUMBER, TRUTH):
        raise Stray("a like is of another kind than number or truth")
    return likeness_kind(kind)


def kind_by_parts(core, kinds):
    """The kind of a core whose parts are of those kinds."""
    word = core[0]
    if word == "fun":
        return ("work", core[1], kinds[0])
    if word == "call":
        return call_kind(kinds)
    if word == "both":
        return ("pair", kinds[0], kinds[1])
    if word in ("left", "right"):
        want_word(kinds[0], "pair")
        return kinds[0][1] if word == "left" else kinds[0][2]
    if word == "more":
        want(kinds[1], ("row", kinds[0]))
        return kinds[1]
    if word == "fold":
        return fold_kind(kinds)
    if word == "if":
        want(kinds[0], TRUTH)
        want(kinds[2], kinds[1])
        return kinds[1]
    if word in ("sum", "less"):
        want(kinds[0], NUMBER)
        want(kinds[1], NUMBER)
        return NUMBER if word == "sum" else TRUTH
    if word == "likepair":
        return likeness_kind(("pair", liked(kinds[0]), liked(kinds[1])))
    return likeness_kind(("row", liked(kinds[0])))


def call_kind(kinds):
    """The kind of a call whose parts are of those kinds."""
    want_word(kinds[0], "work")
    want(kinds[1], kinds[0][1])
    return kinds[0][2]


def fold_kind(kinds):
    """The kind of a fold whose parts are of those kinds."""
    want_word(kinds[0], "row")
    want(kinds[2], ("work", kinds[0][1], ("work", kinds[1], kinds[1])))
    return kinds[1]


def liked(kind):
    """The kind that a likeness of that kind is a likeness of."""
    want_word(kind, "work")
    want(kind, likeness_kind(kind[1]))
    return kind[1]
