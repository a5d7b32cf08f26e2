"""What is known around a form that is written."""

from twomeet.errors import NoRule
from twomeet.likes import likeness, unlikely


class Scope:
    """The shelf; the names of kinds of the definition around, and those that it needs; and the names bound around.

    bound is a tuple of names with their kinds, the innermost first.
    """

    def __init__(self, shelf, free, needs, bound):
        self.shelf = shelf
        self.free = free
        self.needs = needs
        self.bound = bound

    def bind(self, name, kind):
        """What is known further in, where the name is bound, too."""
        return Scope(self.shelf, self.free, self.needs, ((name, kind),) + self.bound)

    def is_bound(self, name):
        """Whether the name is bound around."""
        return name in [one for one, kind in self.bound]

    def var_of(self, name):
        """The core and the kind of a name that is bound around."""
        rounds = [one for one, kind in self.bound].index(name)
        return (("var", rounds), self.bound[rounds][1])

    def likeness_of(self, kind, place):
        """The core of a kind's likeness; NoRule with the place where it has none."""
        lacking = unlikely(kind, self.needs)
        if lacking is not None:
            raise NoRule(place, lacking)
        return likeness(kind, self.likenesses_given())

    def likenesses_given(self):
        """The cores of the likenesses that are taken for granted, by the names that need them."""
        # A definition's core lies in funs of them, the last need innermost, so they are bound around all names.
        given = {}
        rounds = len(self.bound)
        for need in reversed(self.needs):
            given[need] = ("var", rounds)
            rounds += 1
        return given
