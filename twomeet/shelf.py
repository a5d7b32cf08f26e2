"""A shelf of definitions, and what is written and reckoned with them."""

from twomeet.definitions import Definition
from twomeet.errors import Loose, Told, Unbound
from twomeet.kinds import names_in
from twomeet.scope import Scope
from twomeet.steps import run
from twomeet.writing import come_up, go_down


class Shelf:
    """Definitions in the order in which they were told, and their numbers by their names."""

    def __init__(self):
        self.definitions = []
        self.numbers = {}

    def tell(self, name, free, needs, kind, term):
        """Puts a definition onto the shelf."""
        if name in self.numbers:
            raise Told("a definition of that name is told already")
        refuse_names(free, needs, kind)
        core = go_down(term, kind, (), Scope(self, free, needs, ()))
        # Only now is nothing left to be refused for.
        self.numbers[name] = len(self.definitions)
        self.definitions.append(Definition(free, needs, kind, core))

    def write(self, term):
        """A tuple of the core and the kind of a form of which nothing is told."""
        return come_up(term, (), self.outside())

    def write_as(self, term, kind):
        """The core of a form of which the kind is told."""
        return go_down(term, kind, (), self.outside())

    def end(self, term, most):
        """A tuple of the end of a form of which nothing is told, behind at most so many steps, and its kind."""
        core, kind = self.write(term)
        return (run(self, core, most), kind)

    def outside(self):
        """What is known around a form that lies in no definition."""
        return Scope(self, [], [], ())


def refuse_names(free, needs, kind):
    """Refuses names of kinds that are not where they have to be."""
    inside = names_in(kind)
    for name in inside:
        if name not in free:
            raise Unbound((), name)
    for name in free:
        if name not in inside:
            raise Loose("a free name is not in the kind")
    for need in needs:
        if need not in free:
            raise Loose("a need is not free")
