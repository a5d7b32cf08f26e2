"""Definitions as a shelf keeps them, and what they are at the kinds that a core tells."""

from twomeet.errors import Stray
from twomeet.kinds import filled
from twomeet.likes import likeness_kind
from twomeet.walks import core_filled


class Definition:
    """What was told: the names of kinds, those that need a likeness, and the kind; and the core, with its own kind.

    The core is that of the form, in funs of the likenesses that are needed, the first need's outermost.
    """

    def __init__(self, free, needs, kind, core):
        # Lists of its own: those that were handed in may be changed behind the call.
        self.free = list(free)
        self.needs = list(needs)
        self.kind = kind
        self.core = core
        self.whole_kind = kind
        for need in reversed(self.needs):
            granted = likeness_kind(("any", need))
            self.core = ("fun", granted, self.core)
            self.whole_kind = ("work", granted, self.whole_kind)


def told_at(shelf, number, kinds):
    """The definition of that number; Stray where none is, or where it has not as many names as there are kinds."""
    if number < 0 or number >= len(shelf.definitions):
        raise Stray("no definition has the number")
    definition = shelf.definitions[number]
    if len(kinds) != len(definition.free):
        raise Stray("a definition is at more or fewer kinds than it has names")
    return definition


def kind_at(shelf, number, kinds):
    """The kind of a definition's core, with its names filled by the kinds."""
    definition = told_at(shelf, number, kinds)
    return filled(definition.whole_kind, dict(zip(definition.free, kinds)))


def core_at(shelf, number, kinds):
    """A definition's core, with its names filled by the kinds."""
    definition = told_at(shelf, number, kinds)
    return core_filled(definition.core, dict(zip(definition.free, kinds)))
