"""Kinds: filling their names, listing them, and meeting a kind with a pattern."""

NUMBER = ("number",)
TRUTH = ("truth",)


def parts(kind):
    """The kinds straight within a kind, from the left."""
    if kind[0] in ("row", "pair", "work"):
        return kind[1:]
    return ()


def filled(kind, filling):
    """The kind with others in the place of its names, by a dict from names; other names stay."""
    return replaced(kind, "any", filling)


def gaps_filled(kind, found):
    """The kind with what was found in the place of its gaps, by a dict from their numbers; other gaps stay."""
    return replaced(kind, "gap", found)


def replaced(kind, word, filling):
    """The kind with others in the place of the names or of the gaps, as the word says."""
    if kind[0] == word:
        # What is put in is given back as it is: a name within it is not one of this kind's names.
        return filling.get(kind[1], kind)
    within = parts(kind)
    if within == ():
        return kind
    made = (kind[0],)
    for part in within:
        made = made + (replaced(part, word, filling),)
    return made


def has_gaps(kind, found):
    """Whether a gap is in the kind that was not found yet."""
    if kind[0] == "gap":
        return kind[1] not in found
    for part in parts(kind):
        if has_gaps(part, found):
            return True
    return False


def names_in(kind):
    """A list of the kind's names, each once, as they first stand from the left."""
    names = {}
    put_names(kind, names)
    return list(names)


def put_names(kind, names):
    """Puts the kind's names into the dict, which keeps the order in which they came."""
    if kind[0] == "any":
        names[kind[1]] = True
    for part in parts(kind):
        put_names(part, names)


def met(pattern, kind, found):
    """What gaps are, by their numbers, where the pattern is that kind, with what was found ahead; else None."""
    if pattern[0] == "gap":
        return met_gap(pattern[1], kind, found)
    within = parts(pattern)
    if within == ():
        return dict(found) if pattern == kind else None
    if pattern[0] != kind[0]:
        return None
    known = found
    for part, other in zip(within, parts(kind)):
        known = met(part, other, known)
        if known is None:
            return None
    return known


def met_gap(number, kind, found):
    """What gaps are where that one is the kind; None where it was found to be another."""
    if found.get(number, kind) != kind:
        return None
    # A dict of its own: the one that was handed in stays as it was, whatever becomes of the answer.
    known = dict(found)
    known[number] = kind
    return known
