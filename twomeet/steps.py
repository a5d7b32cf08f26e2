"""Steps: which cores are at their end, the core behind one step, and the end behind many."""

from twomeet.errors import TooLong
from twomeet.kinds import NUMBER, TRUTH
from twomeet.rules import becomes
from twomeet.walks import bare, unmarked

# How many of its parts, from the first on, have to be at their end ahead of the core itself.
STEPPING = {
    "call": 2, "both": 2, "left": 1, "right": 1, "more": 2, "fold": 3, "if": 1, "sum": 2, "less": 2, "likepair": 2,
    "likerow": 1,
}
LIKENESSES = ("like", "likepair", "likerow")
# Those that are at their end where their parts are.
ENDS = ("number", "yes", "no", "none", "fun", "both", "more", "likepair", "likerow", "end")


def ends_by_parts(core):
    """Whether a core is at its end if its parts are."""
    if core[0] == "call":
        return bare(core[1])[0] in LIKENESSES
    if core[0] == "like":
        return core[1] in (NUMBER, TRUTH)
    return core[0] in ENDS


def is_end(core):
    """Whether a core is at its end."""
    left = [core]
    while len(left) > 0:
        part = left.pop()
        if not ends_by_parts(part):
            return False
        for place in range(STEPPING.get(part[0], 0)):
            left.append(part[place + 1])
    return True


def with_part(core, place, part):
    """The core with another part in a place."""
    return core[:place] + (part,) + core[place + 1:]


class Reckoning:
    """A core on its way: the part of it that steps next, and what lies around that part.

    What lies around is a stack, the outermost first, for cores lie deeper than calls may. It is kept from step to
    step, so that parts that are at their end are not looked through at each step again.
    """

    def __init__(self, core):
        self.part = core
        self.around = []
        self.seek()

    def seek(self):
        """Goes on to the part that steps next; all around it that stands ahead of it is at its end."""
        self.enter()
        while ends_by_parts(self.part) and len(self.around) > 0:
            self.leave()

    def enter(self):
        """Goes to the first part within the first part, and so on."""
        while self.part[0] in STEPPING:
            self.around.append((self.part, 1))
            self.part = self.part[1]

    def leave(self):
        """Goes from a part at its end to the next one beside it, or, where there is none, to what is around."""
        core, place = self.around.pop()
        core = with_part(core, place, self.part)
        if place < STEPPING[core[0]]:
            self.around.append((core, place + 1))
            self.part = core[place + 1]
            self.enter()
        else:
            self.part = core

    def is_done(self):
        """Whether the whole is at its end."""
        return len(self.around) == 0 and ends_by_parts(self.part)

    def advance(self, shelf):
        """Steps once."""
        self.part = becomes(shelf, self.part)

    def whole(self):
        """The core with all that lies around the part, and without marks."""
        core = self.part
        for around, place in reversed(self.around):
            core = with_part(around, place, core)
        return unmarked(core)


def step(shelf, core):
    """The core behind one step; None at its end; Stray where it sticks."""
    reckoning = Reckoning(core)
    if reckoning.is_done():
        return None
    reckoning.advance(shelf)
    return reckoning.whole()


def run(shelf, core, most):
    """The core at its end; TooLong where it is not there behind so many steps, Stray where it sticks ahead of that."""
    reckoning = Reckoning(core)
    steps = 0
    while not reckoning.is_done():
        if steps >= most:
            raise TooLong("the core is not at its end behind so many steps")
        reckoning.advance(shelf)
        reckoning.seek()
        steps += 1
    return reckoning.whole()
