"""Likenesses: which kinds have one, and its core."""

from twomeet.kinds import TRUTH, parts


def unlikely(kind, needs):
    """The first part of the kind from the left, itself first, that has no likeness by itself; None where all have."""
    if kind[0] == "work":
        return kind
    if kind[0] == "any" and kind[1] not in needs:
        return kind
    for part in parts(kind):
        first = unlikely(part, needs)
        if first is not None:
            return first
    return None


def likeness(kind, given):
    """The core of the kind's likeness, where it has one; given are the cores for names."""
    if kind[0] in ("number", "truth"):
        return ("like", kind)
    if kind[0] == "row":
        return ("likerow", likeness(kind[1], given))
    if kind[0] == "pair":
        return ("likepair", likeness(kind[1], given), likeness(kind[2], given))
    return given[kind[1]]


def likeness_kind(kind):
    """The kind of a likeness of that kind."""
    return ("work", kind, ("work", kind, TRUTH))
