"""Definitions as a shelf keeps them, and what they are at the kinds that a core tells."""

from twomeet.errors import Stray
from twomeet.kinds import filled
from twomeet.likes import likeness_kind
from twomeet.walks import core_filled


class Definition:
    """What was told: the names of kinds, those that need a likeness, and the kind; and the core of the form."""

    def __init__(self, free, needs, kind, core):
        # Lists of its own: those that were handed in may be changed behind the call.
        self.free = list(free)
        self.needs = list(needs)
        self.kind = kind
        self.core = core


def told_at(shelf, number, kinds):
    """The definition of that number; Stray where none is, or where it has not as many names as there are kinds."""
    if number < 0 or number >= len(shelf.definitions):
        raise Stray("no definition has the number")
    definition = shelf.definitions[number]
    if len(kinds) != len(definition.free):
        raise Stray("a definition is at more or fewer kinds than it has names")
    return definition


def kind_at(shelf, number, kinds):
    """The kind of a definition's core at some kinds: a work of each likeness that it needs, and then its own."""
    definition = told_at(shelf, number, kinds)
    kind = definition.kind
    for need in reversed(definition.needs):
        kind = ("work", likeness_kind(("any", need)), kind)
    return filled(kind, dict(zip(definition.free, kinds)))


def core_at(shelf, number, kinds):
    """A definition's core at some kinds: its form's core in funs of the likenesses that it needs."""
    definition = told_at(shelf, number, kinds)
    core = definition.core
    for need in reversed(definition.needs):
        core = ("fun", likeness_kind(("any", need)), core)
    return core_filled(core, dict(zip(definition.free, kinds)))
