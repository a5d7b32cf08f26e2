"""The refusals, one class each, with the values that they tell."""


class MeetError(ValueError):
    """Any refusal."""


class Refused(MeetError):
    """A form is refused, for what lies at a place in it."""

    def __init__(self, place):
        self.place = place


class Told(MeetError):
    """A definition of that name is told already."""


class Loose(MeetError):
    """A free name is not in the kind, or a need is not free."""


class Stray(MeetError):
    """A core has no kind, or sticks."""


class TooLong(MeetError):
    """A core is not at its end behind so many steps."""


class Unmet(Refused):
    """A part is found to be of another kind than was told."""

    def __init__(self, place, wanted, found):
        Refused.__init__(self, place)
        self.wanted = wanted
        self.found = found


class Unfit(Refused):
    """A fun or a row can't be of the kind that was told."""

    def __init__(self, place, wanted):
        Refused.__init__(self, place)
        self.wanted = wanted


class Misused(Refused):
    """What is called, taken apart or folded is not of a kind for it."""

    def __init__(self, place, found):
        Refused.__init__(self, place)
        self.found = found


class NoRule(Refused):
    """A likeness is asked for, and no rule gives it."""

    def __init__(self, place, kind):
        Refused.__init__(self, place)
        self.kind = kind


class Unbound(Refused):
    """A name is bound nowhere."""

    def __init__(self, place, name):
        Refused.__init__(self, place)
        self.name = name


class Unsaid(Refused):
    """A kind can't be found, and none is told."""
