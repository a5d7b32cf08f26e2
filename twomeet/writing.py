"""Writing: long forms into cores; kinds that are found come up, kinds that are told go down.

Each form has a function by which it comes up, and gives back a tuple of its core and its kind; those of which more
is said than that what is found has to be what is told have one by which they go down, and give back their core.
"""

from twomeet.errors import Misused, Unbound, Unfit, Unmet, Unsaid
from twomeet.kinds import NUMBER, TRUTH, filled, gaps_filled, has_gaps, met, names_in


def come_up(form, place, scope):
    """A tuple of the core and the kind of a form of which nothing is told."""
    return COMING_UP[form[0]](form, place, scope)


def go_down(form, kind, place, scope):
    """The core of a form of which the kind is told."""
    if form[0] in GOING_DOWN:
        return GOING_DOWN[form[0]](form, kind, place, scope)
    return found_to_be(form, kind, place, scope)


def found_to_be(form, kind, place, scope):
    """The core of a form whose kind is found, and has to be the one that is told."""
    core, found = come_up(form, place, scope)
    if found != kind:
        raise Unmet(place, kind, found)
    return core


def number_up(form, place, scope):
    return (form, NUMBER)


def truth_up(form, place, scope):
    return (form, TRUTH)


def told_up(form, place, scope):
    for name in names_in(form[2]):
        if name not in scope.free:
            raise Unbound(place, name)
    return (go_down(form[1], form[2], place + (0,), scope), form[2])


def fun_up(form, place, scope):
    raise Unsaid(place)


def fun_down(form, kind, place, scope):
    if kind[0] != "work":
        raise Unfit(place, kind)
    core = go_down(form[2], kind[2], place + (0,), scope.bind(form[1], kind[1]))
    return ("fun", kind[1], core)


def both_up(form, place, scope):
    left, left_kind = come_up(form[1], place + (0,), scope)
    right, right_kind = come_up(form[2], place + (1,), scope)
    return (("both", left, right), ("pair", left_kind, right_kind))


def both_down(form, kind, place, scope):
    if kind[0] != "pair":
        return found_to_be(form, kind, place, scope)
    left = go_down(form[1], kind[1], place + (0,), scope)
    right = go_down(form[2], kind[2], place + (1,), scope)
    return ("both", left, right)


def side_up(form, place, scope):
    core, kind = come_up(form[1], place + (0,), scope)
    if kind[0] != "pair":
        raise Misused(place + (0,), kind)
    return ((form[0], core), kind[1] if form[0] == "left" else kind[2])


def rowof_up(form, place, scope):
    if len(form[1]) == 0:
        raise Unsaid(place)
    first, kind = come_up(form[1][0], place + (0,), scope)
    cores = [first]
    for turn, item in list(enumerate(form[1]))[1:]:
        cores.append(go_down(item, kind, place + (turn,), scope))
    return (row_of(cores, kind), ("row", kind))


def rowof_down(form, kind, place, scope):
    if kind[0] == "row":
        cores = [go_down(item, kind[1], place + (turn,), scope) for turn, item in enumerate(form[1])]
        return row_of(cores, kind[1])
    if len(form[1]) == 0:
        raise Unfit(place, kind)
    return found_to_be(form, kind, place, scope)


def row_of(cores, kind):
    """The core of a row of items of a kind."""
    core = ("none", kind)
    for item in reversed(cores):
        core = ("more", item, core)
    return core


def ahead_up(form, place, scope):
    item, kind = come_up(form[1], place + (0,), scope)
    row = go_down(form[2], ("row", kind), place + (1,), scope)
    return (("more", item, row), ("row", kind))


def ahead_down(form, kind, place, scope):
    if kind[0] != "row":
        return found_to_be(form, kind, place, scope)
    item = go_down(form[1], kind[1], place + (0,), scope)
    row = go_down(form[2], kind, place + (1,), scope)
    return ("more", item, row)


def fold_up(form, place, scope):
    row, row_kind = come_up(form[1], place + (0,), scope)
    if row_kind[0] != "row":
        raise Misused(place + (0,), row_kind)
    start, kind = come_up(form[2], place + (1,), scope)
    work = go_down(form[3], ("work", row_kind[1], ("work", kind, kind)), place + (2,), scope)
    return (("fold", row, start, work), kind)


def if_up(form, place, scope):
    asked = go_down(form[1], TRUTH, place + (0,), scope)
    second, kind = come_up(form[2], place + (1,), scope)
    third = go_down(form[3], kind, place + (2,), scope)
    return (("if", asked, second, third), kind)


def if_down(form, kind, place, scope):
    asked = go_down(form[1], TRUTH, place + (0,), scope)
    second = go_down(form[2], kind, place + (1,), scope)
    third = go_down(form[3], kind, place + (2,), scope)
    return ("if", asked, second, third)


def let_up(form, place, scope):
    first, first_kind = come_up(form[2], place + (0,), scope)
    second, kind = come_up(form[3], place + (1,), scope.bind(form[1], first_kind))
    return (("call", ("fun", first_kind, second), first), kind)


def let_down(form, kind, place, scope):
    first, first_kind = come_up(form[2], place + (0,), scope)
    second = go_down(form[3], kind, place + (1,), scope.bind(form[1], first_kind))
    return ("call", ("fun", first_kind, second), first)


def reckoned_up(form, place, scope):
    first = go_down(form[1], NUMBER, place + (0,), scope)
    second = go_down(form[2], NUMBER, place + (1,), scope)
    return ((form[0], first, second), NUMBER if form[0] == "sum" else TRUTH)


def like_up(form, place, scope):
    first, kind = come_up(form[1], place + (0,), scope)
    second = go_down(form[2], kind, place + (1,), scope)
    return (("call", ("call", scope.likeness_of(kind, place), first), second), TRUTH)


def called_up(form, place, scope):
    return called(form, None, place, scope)


def called_down(form, kind, place, scope):
    core, found = called(form, kind, place, scope)
    if found != kind:
        raise Unmet(place, kind, found)
    return core


def called(form, told, place, scope):
    """The core and the kind of a head that is called none or more times; told is the kind, or None."""
    calls = []
    head = form
    head_place = place
    while head[0] == "call":
        calls.append((head[2], head_place))
        head = head[1]
        head_place = head_place + (0,)
    calls.reverse()
    if head[0] != "name":
        core, kind = come_up(head, head_place, scope)
    elif scope.is_bound(head[1]):
        core, kind = scope.var_of(head[1])
    else:
        return definition_called(head[1], head_place, calls, told, place, scope)
    return work_called(core, kind, calls, scope)


def work_called(core, kind, calls, scope):
    """The core and the kind of a core that is called; calls are parts with the places of their calls, from inside."""
    for part, place in calls:
        if kind[0] != "work":
            raise Misused(place + (0,), kind)
        core = ("call", core, go_down(part, kind[1], place + (1,), scope))
        kind = kind[2]
    return (core, kind)


def definition_called(name, name_place, calls, told, place, scope):
    """The core and the kind of a definition's name that is called."""
    if name not in scope.shelf.numbers:
        raise Unbound(name_place, name)
    number = scope.shelf.numbers[name]
    definition = scope.shelf.definitions[number]
    left = filled(definition.kind, dict([(one, ("gap", turn)) for turn, one in enumerate(definition.free)]))
    found = {}
    cores = []
    for part, call_place in calls:
        if left[0] == "gap":
            left = found.get(left[1], left)
        if left[0] != "work":
            raise Misused(call_place + (0,), gaps_filled(left, found))
        core, found = part_met(part, left[1], found, call_place + (1,), scope)
        cores.append(core)
        left = left[2]
    found = left_met(left, told, found, place)
    core = definition_at(number, definition, found, name_place, scope)
    for part in cores:
        core = ("call", core, part)
    return (core, gaps_filled(left, found))


def part_met(part, pattern, found, place, scope):
    """The core of a part that a definition's name is called with, and what gaps are by then."""
    wanted = gaps_filled(pattern, found)
    if not has_gaps(pattern, found):
        return (go_down(part, wanted, place, scope), found)
    core, kind = come_up(part, place, scope)
    known = met(pattern, kind, found)
    if known is None:
        raise Unmet(place, wanted, kind)
    return (core, known)


def left_met(left, told, found, place):
    """What gaps are where what is left behind all calls meets what is told, if something is."""
    if told is None:
        if has_gaps(left, found):
            raise Unsaid(place)
        return found
    known = met(left, told, found)
    if known is None:
        raise Unmet(place, told, gaps_filled(left, found))
    return known


def definition_at(number, definition, found, place, scope):
    """The core of a definition at the kinds that its gaps are, called with the likenesses that it needs."""
    core = ("def", number, tuple([found[turn] for turn in range(len(definition.free))]))
    for need in definition.needs:
        kind = found[definition.free.index(need)]
        core = ("call", core, scope.likeness_of(kind, place))
    return core


COMING_UP = {
    "number": number_up, "yes": truth_up, "no": truth_up, "name": called_up, "fun": fun_up, "call": called_up,
    "told": told_up, "both": both_up, "left": side_up, "right": side_up, "rowof": rowof_up, "ahead": ahead_up,
    "fold": fold_up, "if": if_up, "let": let_up, "sum": reckoned_up, "less": reckoned_up, "like": like_up,
}
GOING_DOWN = {
    "name": called_down, "fun": fun_down, "call": called_down, "both": both_down, "rowof": rowof_down,
    "ahead": ahead_down, "if": if_down, "let": let_down,
}
