"""Walks through cores: their parts, and what is put into them.

A walk keeps a stack of its own, for cores lie deeper within one another than calls may: a row of 40 items is a
core 40 deep, and its last item may be such a row, too.

On the way of a core to its end an end that was put in is marked: ("end", CORE, CORE without marks). No walk goes
into it. Without marks a work that calls another one twice, which calls another one twice, and so on, would be
looked through as often as it would be called, before its first step. Marks are never given back.
"""

from twomeet.kinds import filled

# What stands behind the text of these is parts alone.
MADE_OF_PARTS = ("call", "both", "left", "right", "more", "fold", "if", "sum", "less", "likepair", "likerow")


def parts_of(core):
    """The cores straight within a core, in order."""
    if core[0] == "fun":
        return core[2:]
    if core[0] in MADE_OF_PARTS:
        return core[1:]
    return ()


def with_parts(core, within):
    """The core with others in the place of its parts, by a list."""
    if core[0] == "fun":
        return ("fun", core[1], within[0])
    if core[0] in MADE_OF_PARTS:
        return (core[0],) + tuple(within)
    return core


def walked(core, context, answer):
    """What answer(core, bound, answers of its parts) gives, asked of each part ahead of what it is a part of.

    bound is a list of the kinds that are bound around a part, the innermost last; context those around the core.
    """
    answers = []
    left = [(core, list(context), False)]
    while len(left) > 0:
        part, bound, ready = left.pop()
        within = parts_of(part)
        if ready:
            answers.append(answer(part, bound, taken(answers, len(within))))
        else:
            left.append((part, bound, True))
            inside = bound + [part[1]] if part[0] == "fun" else bound
            for one in reversed(within):
                left.append((one, inside, False))
    return answers.pop()


def taken(answers, many):
    """The last ones of the list, so many, in their order; they are taken out of it."""
    last = []
    while len(last) < many:
        last.append(answers.pop())
    last.reverse()
    return last


def put_in(core, end):
    """A fun's core with an end, marked, in the place of what the fun is called with."""
    closed = marked(end)

    def answer(part, bound, within):
        # A closed core has no var that leads out of it, so nothing in it is to be counted anew.
        if part[0] == "var" and part[1] == len(bound):
            return closed
        return with_parts(part, within)

    return walked(core, [], answer)


def marked(core):
    """A core at its end with a mark that says so."""
    return core if core[0] == "end" else ("end", core, unmarked(core))


def bare(core):
    """The core without the mark around it; within it there may be others."""
    return core[1] if core[0] == "end" else core


def unmarked(core):
    """The core without any marks."""

    def answer(part, bound, within):
        return part[2] if part[0] == "end" else with_parts(part, within)

    return walked(core, [], answer)


def core_filled(core, filling):
    """The core with others in the place of the names in its kinds, by a dict from names."""

    def answer(part, bound, within):
        if part[0] == "fun":
            return ("fun", filled(part[1], filling), within[0])
        if part[0] == "none":
            return ("none", filled(part[1], filling))
        if part[0] == "def":
            return ("def", part[1], tuple([filled(kind, filling) for kind in part[2]]))
        return with_parts(part, within)

    return walked(core, [], answer)
