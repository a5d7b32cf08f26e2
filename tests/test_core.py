"""Points [1], [9] and [10] and the interface of twomeet/core.py: the kind of a core, and each part of it spoilt."""

import random
import unittest

from tests.helper import (
    DEPTHS, LIBRARY, NO, NUMBER, NUMBERS, TRUTH, TRUTHS, WRAPS, YES, A, B, ask, both, call, cond, deep, definition,
    fold, left, less, library, like_work, likepair, likerow, more, name, none, num, pair, plus, refusal, right, row,
    row_core, var, work,
)
from twomeet.core import core_kind
from twomeet.errors import Stray
from twomeet.shelf import Shelf
from twomeet.steps import step

ADDER = ("fun", NUMBER, ("fun", NUMBER, plus(var(1), var(0))))

# Closed cores of many kinds, none of them the kind of another one.
SAMPLES = [
    (num(7), NUMBER),
    (YES, TRUTH),
    (both(num(1), NO), pair(NUMBER, TRUTH)),
    (none(NUMBER), row(NUMBER)),
    (row_core(TRUTH, YES), row(TRUTH)),
    (row_core(row(NUMBER), none(NUMBER)), row(row(NUMBER))),
    (("fun", NUMBER, var(0)), work(NUMBER, NUMBER)),
    (ADDER, work(NUMBER, work(NUMBER, NUMBER))),
    (NUMBERS, like_work(NUMBER)),
    (TRUTHS, like_work(TRUTH)),
    (likerow(NUMBERS), like_work(row(NUMBER))),
    (none(A), row(A)),
    (("fun", A, var(0)), work(A, A)),
]

# Each core that has parts: how it is made of them, parts that go, and the kind that it is of by then.
MADE = [
    ("call", call, [("fun", NUMBER, both(var(0), YES)), num(1)], pair(NUMBER, TRUTH)),
    ("call", call, [NUMBERS, num(1)], work(NUMBER, TRUTH)),
    ("left", left, [both(num(1), NO)], NUMBER),
    ("right", right, [both(num(1), NO)], TRUTH),
    ("more", more, [num(1), none(NUMBER)], row(NUMBER)),
    ("more", more, [none(TRUTH), row_core(row(TRUTH), none(TRUTH))], row(row(TRUTH))),
    ("fold", fold, [row_core(NUMBER, num(1)), num(0), ADDER], NUMBER),
    ("fold", fold, [none(TRUTH), none(NUMBER), ("fun", TRUTH, ("fun", row(NUMBER), var(0)))], row(NUMBER)),
    ("if", cond, [YES, num(1), num(2)], NUMBER),
    ("sum", plus, [num(1), num(2)], NUMBER),
    ("less", less, [num(1), num(2)], TRUTH),
    ("likepair", likepair, [NUMBERS, TRUTHS], like_work(pair(NUMBER, TRUTH))),
    ("likepair", likepair, [TRUTHS, likerow(NUMBERS)], like_work(pair(TRUTH, row(NUMBER)))),
    ("likerow", likerow, [TRUTHS], like_work(row(TRUTH))),
]

# Which kinds a part may be of, beside its own, where the others stay: those for which the whole is let by still.
LET_BY = {
    ("left", 0): lambda kind: kind[0] == "pair",
    ("right", 0): lambda kind: kind[0] == "pair",
    ("likepair", 0): lambda kind: kind[0] == "work" and kind == like_work(kind[1]),
    ("likepair", 1): lambda kind: kind[0] == "work" and kind == like_work(kind[1]),
    ("likerow", 0): lambda kind: kind[0] == "work" and kind == like_work(kind[1]),
}

# Ways for a core to lie in another one, which is closed where it is, and goes where it is a number.
AROUND = {
    "fun": lambda core: ("fun", TRUTH, core),
    "called": lambda core: call(("fun", NUMBER, var(0)), core),
    "caller": lambda core: call(("fun", TRUTH, core), YES),
    "both, first": lambda core: both(core, YES),
    "both, second": lambda core: both(YES, core),
    "left": lambda core: left(both(core, YES)),
    "right": lambda core: right(both(YES, core)),
    "more, item": lambda core: more(core, none(NUMBER)),
    "more, row": lambda core: more(num(1), more(core, none(NUMBER))),
    "fold, row": lambda core: fold(row_core(NUMBER, core), num(1), ADDER),
    "fold, start": lambda core: fold(none(NUMBER), core, ADDER),
    "fold, work": lambda core: fold(none(NUMBER), num(1), ("fun", NUMBER, ("fun", NUMBER, core))),
    "if, first": lambda core: cond(less(core, num(1)), YES, NO),
    "if, second": lambda core: cond(YES, core, num(1)),
    "if, third": lambda core: cond(YES, num(1), core),
    "sum, first": lambda core: plus(core, num(1)),
    "sum, second": lambda core: plus(num(1), core),
    "less, second": lambda core: less(num(1), core),
    "likepair": lambda core: likepair(NUMBERS, ("fun", NUMBER, ("fun", NUMBER, less(core, num(1))))),
    "likerow": lambda core: likerow(("fun", NUMBER, ("fun", NUMBER, less(core, num(1))))),
}


class CoreTest(unittest.TestCase):
    def setUp(self):
        self.shelf = library(Shelf())

    def kind(self, context, core):
        return core_kind(self.shelf, context, core)

    def check(self, core, wanted, context=()):
        with self.subTest(core=core, context=context):
            self.assertEqual(ask(self, self.kind, list(context), core), wanted)

    def stray(self, core, context=()):
        with self.subTest(core=core, context=context):
            refusal(self, Stray, {}, self.kind, list(context), core)


class FormTest(CoreTest):
    def test_samples_are_of_their_kinds(self):
        for core, kind in SAMPLES:
            self.check(core, kind)
            self.check(core, kind, [TRUTH, NUMBER])

    def test_numbers_of_many_figures_and_below_nothing(self):
        for number in (0, -1, 10 ** 399, -(10 ** 399), 10 ** 450):
            self.check(num(number), NUMBER)

    def test_yes_and_no(self):
        self.check(YES, TRUTH)
        self.check(NO, TRUTH)

    def test_vars_are_counted_from_the_innermost_on(self):
        context = [NUMBER, row(A), TRUTH]
        self.check(var(0), TRUTH, context)
        self.check(var(1), row(A), context)
        self.check(var(2), NUMBER, context)
        self.stray(var(3), context)
        self.stray(var(0))
        self.stray(var(-1), context)
        self.stray(var(-3), context)

    def test_funs_bind_one_more(self):
        self.check(("fun", NUMBER, var(0)), work(NUMBER, NUMBER), [TRUTH])
        self.check(("fun", NUMBER, var(1)), work(NUMBER, TRUTH), [TRUTH])
        self.check(("fun", NUMBER, ("fun", TRUTH, var(1))), work(NUMBER, work(TRUTH, NUMBER)))
        self.check(("fun", NUMBER, ("fun", TRUTH, var(0))), work(NUMBER, work(TRUTH, TRUTH)))
        self.check(("fun", A, ("fun", B, ("fun", NUMBER, var(2)))), work(A, work(B, work(NUMBER, A))))
        self.check(both(("fun", NUMBER, var(0)), var(0)), pair(work(NUMBER, NUMBER), TRUTH), [TRUTH])
        self.stray(("fun", NUMBER, var(1)))
        self.stray(both(("fun", NUMBER, var(0)), var(0)))
        self.stray(call(("fun", NUMBER, var(0)), var(0)))

    def test_what_is_bound_in_one_part_is_not_bound_in_the_next(self):
        core = both(("fun", NUMBER, var(0)), ("fun", TRUTH, var(0)))
        self.check(core, pair(work(NUMBER, NUMBER), work(TRUTH, TRUTH)))
        self.stray(both(("fun", NUMBER, ("fun", TRUTH, var(1))), ("fun", TRUTH, var(1))))

    def test_none_is_a_row_of_its_kind(self):
        for kind in (NUMBER, TRUTH, A, row(NUMBER), pair(A, B), work(NUMBER, A)):
            self.check(none(kind), row(kind))

    def test_cores_with_parts(self):
        for word, make, parts, kind in MADE:
            self.check(make(*parts), kind)
        for first, first_kind in SAMPLES:
            for second, second_kind in SAMPLES:
                self.check(both(first, second), pair(first_kind, second_kind))

    def test_likes_are_of_number_and_truth_alone(self):
        self.check(NUMBERS, like_work(NUMBER))
        self.check(TRUTHS, like_work(TRUTH))
        for kind in (A, row(NUMBER), pair(NUMBER, TRUTH), work(NUMBER, NUMBER), name("number")):
            self.stray(("like", kind))

    def test_likenesses_are_by_the_kinds_of_their_parts(self):
        self.check(likerow(var(0)), like_work(row(A)), [like_work(A)])
        self.check(likepair(var(0), var(1)), like_work(pair(A, B)), [like_work(B), like_work(A)])
        own = ("fun", row(TRUTH), ("fun", row(TRUTH), YES))
        self.check(likepair(own, likerow(own)), like_work(pair(row(TRUTH), row(row(TRUTH)))))
        for kind in (work(NUMBER, TRUTH), work(NUMBER, work(TRUTH, TRUTH)), work(NUMBER, work(NUMBER, NUMBER)), NUMBER,
                     pair(NUMBER, work(NUMBER, TRUTH)), row(NUMBER), work(work(NUMBER, TRUTH), TRUTH)):
            self.stray(likerow(var(0)), [kind])
            self.stray(likepair(var(0), NUMBERS), [kind])
            self.stray(likepair(NUMBERS, var(0)), [kind])


class SpoiltTest(CoreTest):
    def test_each_part_spoilt(self):
        count = 0
        for word, make, parts, kind in MADE:
            for place, part in enumerate(parts):
                own = self.kind([], part)
                for other, other_kind in SAMPLES:
                    if other_kind == own or LET_BY.get((word, place), lambda kind: False)(other_kind):
                        continue
                    if word == "call" and place == 0 and other_kind[0] == "work" and other_kind[1] == NUMBER:
                        continue
                    self.stray(make(*parts[:place], other, *parts[place + 1:]))
                    count += 1
        self.assertGreater(count, 200)

    def test_parts_that_are_of_another_kind_than_one_another(self):
        for core in (
            cond(YES, num(1), YES), cond(YES, none(NUMBER), none(TRUTH)), more(num(1), none(TRUTH)),
            more(num(1), num(2)), fold(none(TRUTH), num(1), ADDER), fold(none(NUMBER), YES, ADDER),
            fold(none(NUMBER), num(1), ("fun", NUMBER, ("fun", NUMBER, YES))),
            fold(none(NUMBER), num(1), ("fun", NUMBER, ("fun", TRUTH, num(1)))),
            fold(none(NUMBER), num(1), ("fun", NUMBER, num(1))), fold(num(1), num(1), ADDER),
            call(("fun", row(NUMBER), num(1)), none(TRUTH)), call(num(1), num(1)), call(NUMBERS, YES),
            call(NUMBERS, num(1), YES), call(NUMBERS, num(1), num(1), num(1)), left(none(NUMBER)), right(ADDER),
        ):
            self.stray(core)

    def test_names_of_kinds_are_the_very_ones(self):
        self.check(call(("fun", A, var(0)), var(0)), A, [A])
        self.stray(call(("fun", A, var(0)), var(0)), [B])
        self.stray(call(("fun", A, var(0)), num(1)))
        self.stray(call(("fun", NUMBER, var(0)), var(0)), [A])
        self.stray(more(var(0), none(A)), [B])

    def test_the_parts_of_an_if_and_of_a_fun_are_all_looked_at(self):
        self.stray(cond(YES, num(1), plus(num(1), YES)))
        self.stray(cond(NO, plus(num(1), YES), num(1)))
        self.stray(("fun", NUMBER, plus(var(0), YES)))
        self.stray(fold(none(NUMBER), num(1), ("fun", NUMBER, ("fun", NUMBER, plus(num(1), NO)))))

    def test_spoilt_within_others(self):
        for way in AROUND:
            with self.subTest(way):
                self.kind([], AROUND[way](num(1)))
                for spoilt in (YES, plus(num(1), YES), var(5), ("like", A), definition(99), definition(0), left(YES)):
                    if spoilt == YES and way in ("fun", "caller", "both, first", "both, second", "left", "right"):
                        continue
                    self.stray(AROUND[way](spoilt))
                    for outer in AROUND:
                        self.stray(AROUND[outer](AROUND[way](spoilt)))


class DefinitionTest(CoreTest):
    def test_a_definition_at_kinds(self):
        self.check(definition(0, NUMBER), work(NUMBER, NUMBER))
        self.check(definition(0, B), work(B, B))
        self.check(definition(1, TRUTH, row(A)), work(TRUTH, work(row(A), TRUTH)))
        self.check(definition(4, pair(A, B)), row(pair(A, B)))
        self.check(definition(9), work(TRUTH, TRUTH))

    def test_kinds_are_in_the_order_of_free_and_not_of_the_kind(self):
        self.check(definition(2, NUMBER, TRUTH), work(pair(TRUTH, NUMBER), pair(NUMBER, TRUTH)))
        self.check(definition(2, A, B), work(pair(B, A), pair(A, B)))

    def test_needs_are_works_of_likenesses_the_first_outermost(self):
        self.check(definition(10, NUMBER), work(like_work(NUMBER), like_work(NUMBER)))
        wanted = pair(NUMBER, TRUTH)
        self.check(definition(12, NUMBER, TRUTH), work(like_work(TRUTH), work(like_work(NUMBER), like_work(wanted))))
        self.check(
            definition(13, row(B), TRUTH),
            work(like_work(TRUTH), work(row(pair(TRUTH, row(B))), work(TRUTH, work(row(B), row(B))))),
        )

    def test_a_definition_that_is_not_told_or_at_other_many_kinds(self):
        for core in (
            definition(14), definition(14, NUMBER), definition(-1), definition(-1, NUMBER), definition(-14, NUMBER),
            definition(0), definition(0, NUMBER, NUMBER), definition(1, NUMBER), definition(9, NUMBER),
            definition(1, NUMBER, NUMBER, NUMBER), definition(10 ** 399),
        ):
            self.stray(core)
        refusal(self, Stray, {}, lambda core: core_kind(Shelf(), [], core), definition(0, NUMBER))

    def test_calls_of_a_definition(self):
        self.check(call(definition(0, NUMBER), num(1)), NUMBER)
        self.stray(call(definition(0, NUMBER), YES))
        self.check(call(definition(10, TRUTH), TRUTHS, YES, NO), TRUTH)
        self.stray(call(definition(10, TRUTH), YES, NO))
        self.stray(call(definition(10, TRUTH), NUMBERS, YES, NO))

    def test_each_definition_s_own_core_is_of_the_definition_s_kind(self):
        for number, (text, free, needs, kind, form) in enumerate(LIBRARY):
            wanted = kind
            for need in reversed(needs):
                wanted = work(like_work(name(need)), wanted)
            core = definition(number, *[name(one) for one in free])
            self.check(core, wanted)
            self.check(step(self.shelf, core), wanted)


class WholeTest(CoreTest):
    def test_the_context_stays_and_may_be_changed_behind_the_call(self):
        context = [NUMBER, TRUTH]
        core = ("fun", row(A), both(var(0), both(var(1), var(2))))
        wanted = work(row(A), pair(row(A), pair(TRUTH, NUMBER)))
        self.assertEqual(self.kind(context, core), wanted)
        self.assertEqual(context, [NUMBER, TRUTH])
        context[1] = B
        context.append(A)
        self.assertEqual(self.kind([NUMBER, TRUTH], core), wanted)
        self.assertEqual(self.kind(context, core), work(row(A), pair(row(A), pair(A, B))))

    def test_deep_kinds(self):
        for way in WRAPS:
            for depth in DEPTHS:
                with self.subTest(way=way, depth=depth):
                    kind = deep(WRAPS[way], depth, A)
                    self.assertEqual(self.kind([kind], call(("fun", kind, none(kind)), var(0))), row(kind))
                    self.assertEqual(self.kind([], definition(0, kind)), work(kind, kind))
                    with self.assertRaises(Stray):
                        self.kind([deep(WRAPS[way], depth, B)], call(("fun", kind, var(0)), var(0)))

    def test_cores_far_deeper_than_forms(self):
        # Forms lie 40 deep and rows have 40 items, so cores lie 1600 deep and more.
        for way in ("called", "both, first", "both, second", "left", "sum, second", "if, third", "fold, start"):
            with self.subTest(way):
                core = num(1)
                for _ in range(3000 if way[:4] != "both" else 90):
                    core = AROUND[way](core)
                self.assertEqual(self.kind([], core)[0], "pair" if way[:4] == "both" else "number")
        core = none(NUMBER)
        for _ in range(3000):
            core = more(num(1), core)
        self.assertEqual(self.kind([], core), row(NUMBER))
        core = num(1)
        for _ in range(1000):
            core = call(("fun", NUMBER, core), var(0))
        self.assertEqual(self.kind([NUMBER], core), NUMBER)

    def test_random_cores_against_the_rules_told_once_more(self):
        chance = random.Random(5)
        good = 0
        for _ in range(6000):
            core = random_core(chance, chance.randrange(5))
            context = [chance.choice((NUMBER, TRUTH, row(NUMBER))) for _ in range(chance.randrange(3))]
            wanted = model_kind(context, core)
            if wanted is None:
                self.stray(core, context)
            else:
                good += 1
                self.check(core, wanted, context)
        self.assertGreater(good, 300)


def random_core(chance, depth):
    if depth == 0:
        return chance.choice((
            num(1), YES, var(0), var(1), none(NUMBER), NUMBERS, TRUTHS, ("like", row(NUMBER)), definition(0, NUMBER),
            definition(9), definition(9, NUMBER),
        ))
    word = chance.choice(("fun", "call", "call", "both", "left", "right", "more", "fold", "if", "sum", "less",
                          "likepair", "likerow"))
    if word == "fun":
        return ("fun", chance.choice((NUMBER, TRUTH)), random_core(chance, depth - 1))
    many = {"left": 1, "right": 1, "likerow": 1, "fold": 3, "if": 3}.get(word, 2)
    return (word,) + tuple(random_core(chance, chance.randrange(depth)) for _ in range(many))


def model_kind(context, core):
    """The kind, or None, of a core whose definitions are 0 (work a a) and 9 (work truth truth)."""
    word = core[0]
    if word in ("number", "yes", "no", "none", "like", "var", "def"):
        if word == "var":
            return context[::-1][core[1]] if core[1] < len(context) else None
        if word == "like":
            return like_work(core[1]) if core[1] in (NUMBER, TRUTH) else None
        if word == "def":
            return {(0, 1): work(*core[2] * 2) if core[1] == 0 else None, (9, 0): work(TRUTH, TRUTH)}.get(
                (core[1], len(core[2])))
        return {"number": NUMBER, "none": row(core[1]) if word == "none" else None}.get(word, TRUTH)
    if word == "fun":
        inside = model_kind(context + [core[1]], core[2])
        return None if inside is None else work(core[1], inside)
    kinds = [model_kind(context, part) for part in core[1:]]
    if None in kinds:
        return None
    first = kinds[0]
    likened = [kind[1] for kind in kinds if kind[0] == "work" and kind == like_work(kind[1])]
    good = {
        "call": first[0] == "work" and kinds[-1] == first[1], "both": True, "left": first[0] == "pair",
        "right": first[0] == "pair", "more": kinds[-1] == row(first),
        "fold": first[0] == "row" and kinds[-1] == work(first[1], work(kinds[-2], kinds[-2])) if word == "fold" else 0,
        "if": first == TRUTH and kinds[-2:] == kinds[-1:] * 2, "sum": kinds == [NUMBER] * 2,
        "less": kinds == [NUMBER] * 2, "likepair": len(likened) == 2, "likerow": len(likened) == 1,
    }[word]
    if not good:
        return None
    return {
        "call": lambda: first[2], "both": lambda: pair(*kinds), "left": lambda: first[1], "right": lambda: first[2],
        "more": lambda: row(first), "fold": lambda: kinds[1], "if": lambda: kinds[1], "sum": lambda: NUMBER,
        "less": lambda: TRUTH, "likepair": lambda: like_work(pair(*likened)),
        "likerow": lambda: like_work(row(*likened)),
    }[word]()


if __name__ == "__main__":
    unittest.main()
