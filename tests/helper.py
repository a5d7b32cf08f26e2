"""What several tests use: short names for kinds, forms and cores, deep ones, ways to ask, and what forms mean."""

import copy

NUMBER = ("number",)
TRUTH = ("truth",)

# Names are one to eight small letters; some are like the words that kinds begin with.
EDGE_NAMES = ["a", "z", "abcdefgh", "zzzzzzzz", "any", "gap", "row", "pair", "work", "number", "truth"]

# Kinds lie at most 40 within one another, and what lies somewhat beyond is not refused.
DEPTHS = [1, 2, 39, 40, 41, 60]


def name(text):
    return ("any", text)


def gap(number):
    return ("gap", number)


def row(kind):
    return ("row", kind)


def pair(first, second):
    return ("pair", first, second)


def work(first, second):
    return ("work", first, second)


# The ways for a kind to lie straight within another one.
WRAPS = {
    "row": row,
    "left of a pair": lambda kind: pair(kind, NUMBER),
    "right of a pair": lambda kind: pair(NUMBER, kind),
    "first of a work": lambda kind: work(kind, TRUTH),
    "second of a work": lambda kind: work(TRUTH, kind),
}


def deep(wrap, depth, kind):
    for _ in range(depth):
        kind = wrap(kind)
    return kind


def ask(test, asked, *handed):
    """The answer to a call, asked twice; the answers must be the same, and what was handed in as it was."""
    ahead = copy.deepcopy(handed)
    answer = asked(*handed)
    test.assertEqual(handed, ahead)
    kept = copy.deepcopy(answer)
    again = asked(*handed)
    test.assertEqual(again, kept)
    test.assertEqual(answer, kept)
    test.assertEqual(handed, ahead)
    return answer


def refusal(test, error, values, asked, *handed):
    """Asks twice for what has to be refused, with that very class and those values, and nothing changed."""
    ahead = copy.deepcopy(handed)
    for _ in range(2):
        with test.assertRaises(error) as taken:
            asked(*handed)
        test.assertEqual(type(taken.exception), error)
        test.assertEqual(vars(taken.exception), values)
        test.assertEqual(handed, ahead)


# Long forms; those that are cores, too, where their parts are.
YES = ("yes",)
NO = ("no",)


def num(number):
    return ("number", number)


def ref(text):
    return ("name", text)


def fun(text, form):
    return ("fun", text, form)


def call(head, *parts):
    """The head called with the parts, one by one."""
    for part in parts:
        head = ("call", head, part)
    return head


def told(form, kind):
    return ("told", form, kind)


def both(first, second):
    return ("both", first, second)


def left(form):
    return ("left", form)


def right(form):
    return ("right", form)


def rowof(*items):
    return ("rowof", items)


def ahead(item, form):
    return ("ahead", item, form)


def fold(form, start, worker):
    return ("fold", form, start, worker)


def cond(first, second, third):
    return ("if", first, second, third)


def let(text, first, second):
    return ("let", text, first, second)


def plus(first, second):
    return ("sum", first, second)


def less(first, second):
    return ("less", first, second)


def like(first, second):
    return ("like", first, second)


# Cores alone.
NUMBERS = ("like", NUMBER)
TRUTHS = ("like", TRUTH)


def var(rounds):
    return ("var", rounds)


def none(kind):
    return ("none", kind)


def more(*cores):
    """Items ahead of one another, and of the last core, a row."""
    made = cores[-1]
    for item in reversed(cores[:-1]):
        made = ("more", item, made)
    return made


def row_core(kind, *items):
    return more(*items, none(kind))


def definition(number, *kinds):
    return ("def", number, kinds)


def likepair(first, second):
    return ("likepair", first, second)


def likerow(core):
    return ("likerow", core)


def like_work(kind):
    """The kind of a likeness of a kind."""
    return work(kind, work(kind, TRUTH))


# Definitions to be told, in an order in which each uses those ahead alone: name, free, needs, kind, form.
A = name("a")
B = name("b")
C = name("c")
LIBRARY = [
    ("same", ["a"], [], work(A, A), fun("x", ref("x"))),
    ("always", ["a", "b"], [], work(A, work(B, A)), fun("x", fun("y", ref("x")))),
    ("turned", ["b", "a"], [], work(pair(A, B), pair(B, A)), fun("p", both(right(ref("p")), left(ref("p"))))),
    ("behind", ["a", "b", "c"], [], work(work(B, C), work(work(A, B), work(A, C))),
     fun("f", fun("g", fun("x", call(ref("f"), call(ref("g"), ref("x"))))))),
    ("empty", ["a"], [], row(A), rowof()),
    ("single", ["a"], [], work(A, row(A)), fun("x", rowof(ref("x")))),
    ("each", ["a", "b"], [], work(work(A, B), work(row(A), row(B))),
     fun("f", fun("xs", fold(ref("xs"), told(rowof(), row(B)),
                             fun("x", fun("ys", ahead(call(ref("f"), ref("x")), ref("ys")))))))),
    ("joined", ["a"], [], work(row(A), work(row(A), row(A))),
     fun("xs", fun("ys", fold(ref("xs"), ref("ys"), fun("x", fun("zs", ahead(ref("x"), ref("zs")))))))),
    ("long", ["a"], [], work(row(A), NUMBER),
     fun("xs", fold(ref("xs"), num(0), fun("x", fun("n", plus(num(1), ref("n"))))))),
    ("nay", [], [], work(TRUTH, TRUTH), fun("t", cond(ref("t"), NO, YES))),
    ("alike", ["a"], ["a"], work(A, work(A, TRUTH)), fun("x", fun("y", like(ref("x"), ref("y"))))),
    ("within", ["a"], ["a"], work(A, work(row(A), TRUTH)),
     fun("x", fun("xs", fold(ref("xs"), NO, fun("y", fun("t", cond(like(ref("x"), ref("y")), YES, ref("t")))))))),
    ("other", ["a", "b"], ["b", "a"], work(pair(A, B), work(pair(A, B), TRUTH)),
     fun("p", fun("q", call(ref("nay"), call(ref("alike"), ref("p"), ref("q")))))),
    ("place", ["b", "a"], ["a"], work(row(pair(A, B)), work(A, work(B, B))),
     fun("rows", fun("key", fun("else", fold(ref("rows"), ref("else"), fun("p", fun("rest", cond(
         like(left(ref("p")), ref("key")), right(ref("p")), ref("rest"))))))))),
]


def library(shelf):
    """Tells a shelf all definitions of the library; their numbers are their places there."""
    for text, free, needs, kind, form in LIBRARY:
        shelf.tell(text, list(free), list(needs), kind, form)
    return shelf


def meaning(form, bound, forms):
    """What a form means by point [5]: numbers, truths, tuples for pairs, lists for rows, and Python's own functions.

    forms are those of the definitions, by their names. No kinds are needed for it, so that it owes nothing to them.
    """
    word = form[0]
    if word == "number":
        return form[1]
    if word in ("yes", "no"):
        return word == "yes"
    if word == "name":
        return bound[form[1]] if form[1] in bound else meaning(forms[form[1]], {}, forms)
    if word == "fun":
        return lambda value: meaning(form[2], dict(bound, **{form[1]: value}), forms)
    if word == "told":
        return meaning(form[1], bound, forms)
    if word == "rowof":
        return [meaning(item, bound, forms) for item in form[1]]
    if word == "let":
        return meaning(form[3], dict(bound, **{form[1]: meaning(form[2], bound, forms)}), forms)
    if word == "if":
        return meaning(form[2] if meaning(form[1], bound, forms) else form[3], bound, forms)
    values = [meaning(part, bound, forms) for part in form[1:]]
    if word == "fold":
        result = values[1]
        for item in reversed(values[0]):
            result = values[2](item)(result)
        return result
    return {
        "call": lambda: values[0](values[1]), "both": lambda: (values[0], values[1]), "left": lambda: values[0][0],
        "right": lambda: values[0][1], "ahead": lambda: [values[0]] + values[1], "sum": lambda: values[0] + values[1],
        "less": lambda: values[0] < values[1], "like": lambda: values[0] == values[1],
    }[word]()


def value_of(core):
    """What an end without works means, told like meaning does."""
    word = core[0]
    if word == "number":
        return core[1]
    if word == "both":
        return (value_of(core[1]), value_of(core[2]))
    if word in ("yes", "no"):
        return word == "yes"
    items = []
    while core[0] == "more":
        items.append(value_of(core[1]))
        core = core[2]
    if core[0] != "none":
        raise AssertionError(core)
    return items


def has_works(kind):
    return kind[0] == "work" or any(has_works(part) for part in kind[1:] if isinstance(part, tuple))
