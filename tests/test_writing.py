"""Points [4], [5], [6], [8] and [10] and the interface of twomeet/shelf.py: write and write_as, form by form."""

import unittest

from tests.helper import (
    DEPTHS, NO, NUMBER, NUMBERS, TRUTH, TRUTHS, WRAPS, YES, A, B, ahead, ask, both, call, cond, deep, definition, fold,
    fun, left, less, let, library, like, likepair, likerow, more, none, num, pair, plus, ref, refusal, right, row,
    row_core, rowof, told, var, work,
)
from twomeet.core import core_kind
from twomeet.errors import Misused, NoRule, Unbound, Unfit, Unmet, Unsaid
from twomeet.shelf import Shelf

ADD = fun("x", fun("y", plus(ref("x"), ref("y"))))
ADDER = ("fun", NUMBER, ("fun", NUMBER, plus(var(1), var(0))))
ADDS = work(NUMBER, work(NUMBER, NUMBER))
SAME = ("fun", NUMBER, var(0))
COUNT = work(NUMBER, NUMBER)
# A form that is refused by itself, whatever is told of it, at its own first part.
BAD = left(num(1))
# Kinds of all sorts, to be told where they don't fit.
KINDS = [NUMBER, TRUTH, row(NUMBER), row(TRUTH), pair(NUMBER, TRUTH), pair(TRUTH, TRUTH), COUNT, work(TRUTH, NUMBER)]

# Forms that come up: the form, its core, its kind.
UP = [
    (num(5), num(5), NUMBER),
    (num(0), num(0), NUMBER),
    (num(-(10 ** 399)), num(-(10 ** 399)), NUMBER),
    (YES, YES, TRUTH),
    (NO, NO, TRUTH),
    (told(num(1), NUMBER), num(1), NUMBER),
    (told(told(YES, TRUTH), TRUTH), YES, TRUTH),
    (told(fun("x", ref("x")), COUNT), SAME, COUNT),
    (told(rowof(), row(TRUTH)), none(TRUTH), row(TRUTH)),
    (told(ADD, ADDS), ADDER, ADDS),
    (both(num(1), YES), both(num(1), YES), pair(NUMBER, TRUTH)),
    (both(both(YES, num(1)), rowof(NO)), both(both(YES, num(1)), row_core(TRUTH, NO)),
     pair(pair(TRUTH, NUMBER), row(TRUTH))),
    (left(both(num(1), YES)), left(both(num(1), YES)), NUMBER),
    (right(both(num(1), YES)), right(both(num(1), YES)), TRUTH),
    (rowof(num(1)), row_core(NUMBER, num(1)), row(NUMBER)),
    (rowof(num(1), num(2), num(3)), row_core(NUMBER, num(1), num(2), num(3)), row(NUMBER)),
    (rowof(told(rowof(), row(TRUTH)), rowof(), rowof(NO)), row_core(row(TRUTH), none(TRUTH), none(TRUTH),
                                                                    row_core(TRUTH, NO)), row(row(TRUTH))),
    (rowof(told(ADD, ADDS), ADD), row_core(ADDS, ADDER, ADDER), row(ADDS)),
    (ahead(num(1), rowof()), row_core(NUMBER, num(1)), row(NUMBER)),
    (ahead(num(1), ahead(num(2), rowof(num(3)))), row_core(NUMBER, num(1), num(2), num(3)), row(NUMBER)),
    (fold(rowof(num(1)), num(0), ADD), fold(row_core(NUMBER, num(1)), num(0), ADDER), NUMBER),
    (fold(rowof(YES), rowof(num(0)), fun("t", fun("xs", ref("xs")))),
     fold(row_core(TRUTH, YES), row_core(NUMBER, num(0)), ("fun", TRUTH, ("fun", row(NUMBER), var(0)))), row(NUMBER)),
    (fold(rowof(num(1)), told(rowof(), row(TRUTH)), fun("n", fun("xs", ahead(less(ref("n"), num(2)), ref("xs"))))),
     fold(row_core(NUMBER, num(1)), none(TRUTH),
          ("fun", NUMBER, ("fun", row(TRUTH), more(less(var(1), num(2)), var(0))))), row(TRUTH)),
    (cond(YES, num(1), num(2)), cond(YES, num(1), num(2)), NUMBER),
    (cond(YES, rowof(num(1)), rowof()), cond(YES, row_core(NUMBER, num(1)), none(NUMBER)), row(NUMBER)),
    (let("x", num(1), ref("x")), call(SAME, num(1)), NUMBER),
    (let("x", num(1), YES), call(("fun", NUMBER, YES), num(1)), TRUTH),
    (let("x", num(1), let("x", YES, ref("x"))),
     call(("fun", NUMBER, call(("fun", TRUTH, var(0)), YES)), num(1)), TRUTH),
    (let("x", num(1), let("y", YES, both(ref("x"), ref("y")))),
     call(("fun", NUMBER, call(("fun", TRUTH, both(var(1), var(0))), YES)), num(1)), pair(NUMBER, TRUTH)),
    (let("x", num(1), let("x", both(ref("x"), YES), ref("x"))),
     call(("fun", NUMBER, call(("fun", pair(NUMBER, TRUTH), var(0)), both(var(0), YES))), num(1)), pair(NUMBER, TRUTH)),
    (let("f", told(ADD, ADDS), call(ref("f"), num(1))), call(("fun", ADDS, call(var(0), num(1))), ADDER), COUNT),
    (let("f", told(ADD, ADDS), call(ref("f"), num(1), num(2))),
     call(("fun", ADDS, call(var(0), num(1), num(2))), ADDER), NUMBER),
    (plus(num(1), num(2)), plus(num(1), num(2)), NUMBER),
    (less(num(1), num(2)), less(num(1), num(2)), TRUTH),
    (like(num(1), num(2)), call(NUMBERS, num(1), num(2)), TRUTH),
    (like(YES, NO), call(TRUTHS, YES, NO), TRUTH),
    (like(both(num(1), YES), both(num(2), NO)),
     call(likepair(NUMBERS, TRUTHS), both(num(1), YES), both(num(2), NO)), TRUTH),
    (like(rowof(num(1)), rowof()), call(likerow(NUMBERS), row_core(NUMBER, num(1)), none(NUMBER)), TRUTH),
    (like(rowof(both(YES, rowof(YES))), rowof()),
     call(likerow(likepair(TRUTHS, likerow(TRUTHS))),
          row_core(pair(TRUTH, row(TRUTH)), both(YES, row_core(TRUTH, YES))), none(pair(TRUTH, row(TRUTH)))), TRUTH),
    (call(told(ADD, ADDS), num(1)), call(ADDER, num(1)), COUNT),
    (call(told(ADD, ADDS), num(1), num(2)), call(ADDER, num(1), num(2)), NUMBER),
    (call(told(fun("f", call(ref("f"), num(1))), work(COUNT, NUMBER)), fun("x", ref("x"))),
     call(("fun", COUNT, call(var(0), num(1))), SAME), NUMBER),
    (call(left(both(told(ADD, ADDS), YES)), num(1)), call(left(both(ADDER, YES)), num(1)), COUNT),
    (call(cond(YES, told(ADD, ADDS), ADD), num(1)), call(cond(YES, ADDER, ADDER), num(1)), COUNT),
    (call(let("x", num(1), told(fun("y", ref("x")), COUNT)), num(2)),
     call(call(("fun", NUMBER, ("fun", NUMBER, var(1))), num(1)), num(2)), NUMBER),
    (call(told(call(told(ADD, ADDS), num(1)), COUNT), num(2)), call(ADDER, num(1), num(2)), NUMBER),
]

# Forms that are not found as they are told, but go down: the form, the kind, its core.
DOWN = [
    (fun("x", ref("x")), COUNT, SAME),
    (fun("x", num(1)), work(row(TRUTH), NUMBER), ("fun", row(TRUTH), num(1))),
    (ADD, ADDS, ADDER),
    (fun("x", fun("x", ref("x"))), work(NUMBER, work(TRUTH, TRUTH)), ("fun", NUMBER, ("fun", TRUTH, var(0)))),
    (fun("x", fun("y", ref("x"))), work(NUMBER, work(TRUTH, NUMBER)), ("fun", NUMBER, ("fun", TRUTH, var(1)))),
    (fun("x", fun("y", fun("x", both(ref("x"), ref("y"))))),
     work(NUMBER, work(TRUTH, work(row(TRUTH), pair(row(TRUTH), TRUTH)))),
     ("fun", NUMBER, ("fun", TRUTH, ("fun", row(TRUTH), both(var(0), var(1)))))),
    (fun("f", fun("x", call(ref("f"), ref("x"), fun("y", ref("x"))))),
     work(work(NUMBER, work(work(TRUTH, NUMBER), TRUTH)), work(NUMBER, TRUTH)),
     ("fun", work(NUMBER, work(work(TRUTH, NUMBER), TRUTH)),
      ("fun", NUMBER, call(var(1), var(0), ("fun", TRUTH, var(1)))))),
    (both(fun("x", ref("x")), rowof()), pair(COUNT, row(TRUTH)), both(SAME, none(TRUTH))),
    (rowof(), row(NUMBER), none(NUMBER)),
    (rowof(), row(row(TRUTH)), none(row(TRUTH))),
    (rowof(rowof(), rowof(num(1))), row(row(NUMBER)), row_core(row(NUMBER), none(NUMBER), row_core(NUMBER, num(1)))),
    (rowof(fun("x", ref("x")), fun("x", num(1))), row(COUNT), row_core(COUNT, SAME, ("fun", NUMBER, num(1)))),
    (ahead(rowof(), rowof()), row(row(NUMBER)), row_core(row(NUMBER), none(NUMBER))),
    (ahead(fun("x", ref("x")), rowof()), row(COUNT), row_core(COUNT, SAME)),
    (cond(YES, fun("x", ref("x")), fun("y", num(1))), COUNT, cond(YES, SAME, ("fun", NUMBER, num(1)))),
    (cond(YES, rowof(), rowof(num(1))), row(NUMBER), cond(YES, none(NUMBER), row_core(NUMBER, num(1)))),
    (let("x", num(1), fun("y", ref("x"))), work(TRUTH, NUMBER), call(("fun", NUMBER, ("fun", TRUTH, var(1))), num(1))),
    (let("x", num(1), rowof()), row(TRUTH), call(("fun", NUMBER, none(TRUTH)), num(1))),
    (cond(NO, let("x", YES, both(rowof(), ref("x"))), both(rowof(NO), NO)), pair(row(TRUTH), TRUTH),
     cond(NO, call(("fun", TRUTH, both(none(TRUTH), var(0))), YES), both(row_core(TRUTH, NO), NO))),
]

# Forms that are refused where nothing is told: the form, the class, the values.
REFUSED_UP = [
    (fun("x", ref("x")), Unsaid, {"place": ()}),
    (fun("x", BAD), Unsaid, {"place": ()}),
    (rowof(), Unsaid, {"place": ()}),
    (ref("x"), Unbound, {"place": (), "name": "x"}),
    (left(num(1)), Misused, {"place": (0,), "found": NUMBER}),
    (right(rowof(num(1))), Misused, {"place": (0,), "found": row(NUMBER)}),
    (left(told(fun("x", ref("x")), COUNT)), Misused, {"place": (0,), "found": COUNT}),
    (left(fun("x", ref("x"))), Unsaid, {"place": (0,)}),
    (both(fun("x", ref("x")), num(1)), Unsaid, {"place": (0,)}),
    (both(num(1), rowof()), Unsaid, {"place": (1,)}),
    (told(num(1), TRUTH), Unmet, {"place": (0,), "wanted": TRUTH, "found": NUMBER}),
    (told(fun("x", num(1)), TRUTH), Unfit, {"place": (0,), "wanted": TRUTH}),
    (told(fun("x", YES), COUNT), Unmet, {"place": (0, 0), "wanted": NUMBER, "found": TRUTH}),
    (told(fun("x", fun("y", ref("y"))), ADDS[:2] + (work(TRUTH, NUMBER),)), Unmet,
     {"place": (0, 0, 0), "wanted": NUMBER, "found": TRUTH}),
    (told(num(1), A), Unbound, {"place": (), "name": "a"}),
    (told(BAD, row(B)), Unbound, {"place": (), "name": "b"}),
    (told(num(1), pair(B, A)), Unbound, {"place": (), "name": "b"}),
    (told(rowof(), row(A)), Unbound, {"place": (), "name": "a"}),
    (told(rowof(), NUMBER), Unfit, {"place": (0,), "wanted": NUMBER}),
    (told(rowof(YES), NUMBER), Unmet, {"place": (0,), "wanted": NUMBER, "found": row(TRUTH)}),
    (rowof(num(1), YES), Unmet, {"place": (1,), "wanted": NUMBER, "found": TRUTH}),
    (rowof(num(1), num(2), NO, YES), Unmet, {"place": (2,), "wanted": NUMBER, "found": TRUTH}),
    (rowof(rowof(), rowof(num(1))), Unsaid, {"place": (0,)}),
    (rowof(rowof(num(1)), rowof(NO)), Unmet, {"place": (1, 0), "wanted": NUMBER, "found": TRUTH}),
    (rowof(num(1), rowof()), Unfit, {"place": (1,), "wanted": NUMBER}),
    (rowof(num(1), fun("x", ref("x"))), Unfit, {"place": (1,), "wanted": NUMBER}),
    (ahead(num(1), rowof(YES)), Unmet, {"place": (1, 0), "wanted": NUMBER, "found": TRUTH}),
    (ahead(num(1), num(2)), Unmet, {"place": (1,), "wanted": row(NUMBER), "found": NUMBER}),
    (ahead(rowof(), rowof()), Unsaid, {"place": (0,)}),
    (ahead(num(1), fun("x", ref("x"))), Unfit, {"place": (1,), "wanted": row(NUMBER)}),
    (fold(num(1), num(2), ADD), Misused, {"place": (0,), "found": NUMBER}),
    (fold(both(YES, YES), BAD, BAD), Misused, {"place": (0,), "found": pair(TRUTH, TRUTH)}),
    (fold(rowof(), num(2), ADD), Unsaid, {"place": (0,)}),
    (fold(rowof(num(1)), rowof(), ADD), Unsaid, {"place": (1,)}),
    (fold(rowof(num(1)), num(2), YES), Unmet, {"place": (2,), "wanted": ADDS, "found": TRUTH}),
    (fold(rowof(num(1)), num(2), fun("x", num(1))), Unmet, {"place": (2, 0), "wanted": COUNT, "found": NUMBER}),
    (fold(rowof(num(1)), num(2), fun("x", fun("y", YES))), Unmet,
     {"place": (2, 0, 0), "wanted": NUMBER, "found": TRUTH}),
    (fold(rowof(YES), num(2), ADD), Unmet, {"place": (2, 0, 0, 0), "wanted": NUMBER, "found": TRUTH}),
    (fold(rowof(num(1)), YES, ADD), Unmet, {"place": (2, 0, 0, 1), "wanted": NUMBER, "found": TRUTH}),
    (fold(rowof(num(1)), YES, fun("x", fun("y", ref("x")))), Unmet,
     {"place": (2, 0, 0), "wanted": TRUTH, "found": NUMBER}),
    (cond(num(1), BAD, BAD), Unmet, {"place": (0,), "wanted": TRUTH, "found": NUMBER}),
    (cond(rowof(), num(1), num(1)), Unfit, {"place": (0,), "wanted": TRUTH}),
    (cond(YES, num(1), NO), Unmet, {"place": (2,), "wanted": NUMBER, "found": TRUTH}),
    (cond(YES, rowof(), rowof(num(1))), Unsaid, {"place": (1,)}),
    (cond(YES, num(1), rowof()), Unfit, {"place": (2,), "wanted": NUMBER}),
    (let("x", rowof(), num(1)), Unsaid, {"place": (0,)}),
    (let("x", ref("x"), num(1)), Unbound, {"place": (0,), "name": "x"}),
    (let("x", num(1), ref("y")), Unbound, {"place": (1,), "name": "y"}),
    (let("x", num(1), rowof()), Unsaid, {"place": (1,)}),
    (both(let("x", num(1), ref("x")), ref("x")), Unbound, {"place": (1,), "name": "x"}),
    (both(told(fun("x", ref("x")), COUNT), ref("x")), Unbound, {"place": (1,), "name": "x"}),
    (plus(YES, BAD), Unmet, {"place": (0,), "wanted": NUMBER, "found": TRUTH}),
    (plus(num(1), rowof(YES)), Unmet, {"place": (1,), "wanted": NUMBER, "found": row(TRUTH)}),
    (less(num(1), fun("x", ref("x"))), Unfit, {"place": (1,), "wanted": NUMBER}),
    (less(rowof(), num(1)), Unfit, {"place": (0,), "wanted": NUMBER}),
    (like(num(1), YES), Unmet, {"place": (1,), "wanted": NUMBER, "found": TRUTH}),
    (like(rowof(), rowof()), Unsaid, {"place": (0,)}),
    (like(fun("x", ref("x")), BAD), Unsaid, {"place": (0,)}),
    (like(told(ADD, ADDS), BAD), Misused, {"place": (1, 0), "found": NUMBER}),
    (like(told(ADD, ADDS), ADD), NoRule, {"place": (), "kind": ADDS}),
    (like(both(num(1), told(ADD, ADDS)), both(num(1), ADD)), NoRule, {"place": (), "kind": ADDS}),
    (like(rowof(both(told(ADD, ADDS), told(fun("x", ref("x")), COUNT))), rowof()), NoRule, {"place": (), "kind": ADDS}),
    (like(rowof(both(rowof(YES), told(fun("x", ref("x")), COUNT))), rowof()), NoRule, {"place": (), "kind": COUNT}),
    (call(num(1), BAD), Misused, {"place": (0,), "found": NUMBER}),
    (call(num(1), num(2), num(3)), Misused, {"place": (0, 0), "found": NUMBER}),
    (call(fun("x", ref("x")), num(1)), Unsaid, {"place": (0,)}),
    (call(fun("x", ref("x")), num(1), num(2)), Unsaid, {"place": (0, 0)}),
    (call(rowof(), BAD), Unsaid, {"place": (0,)}),
    (call(ref("x"), BAD), Unbound, {"place": (0,), "name": "x"}),
    (call(ref("x"), BAD, BAD, BAD), Unbound, {"place": (0, 0, 0), "name": "x"}),
    (call(told(ADD, ADDS), YES), Unmet, {"place": (1,), "wanted": NUMBER, "found": TRUTH}),
    (call(told(ADD, ADDS), YES, BAD), Unmet, {"place": (0, 1), "wanted": NUMBER, "found": TRUTH}),
    (call(told(ADD, ADDS), num(1), YES), Unmet, {"place": (1,), "wanted": NUMBER, "found": TRUTH}),
    (call(told(ADD, ADDS), num(1), rowof()), Unfit, {"place": (1,), "wanted": NUMBER}),
    (call(told(ADD, ADDS), num(1), num(2), BAD), Misused, {"place": (0,), "found": NUMBER}),
    (call(told(ADD, ADDS), num(1), num(2), BAD, BAD), Misused, {"place": (0, 0), "found": NUMBER}),
    (let("f", num(1), call(ref("f"), BAD)), Misused, {"place": (1, 0), "found": NUMBER}),
    (let("f", told(ADD, ADDS), call(ref("f"), num(1), num(2), num(3))), Misused, {"place": (1, 0), "found": NUMBER}),
]

# Forms that are refused where a kind is told, of which more is said than what UP makes plain: with the kind.
REFUSED_DOWN = [
    (fun("x", BAD), NUMBER, Unfit, {"place": (), "wanted": NUMBER}),
    (fun("x", ref("x")), row(COUNT), Unfit, {"place": (), "wanted": row(COUNT)}),
    (fun("x", ref("x")), pair(NUMBER, NUMBER), Unfit, {"place": (), "wanted": pair(NUMBER, NUMBER)}),
    (fun("x", ref("x")), work(NUMBER, TRUTH), Unmet, {"place": (0,), "wanted": TRUTH, "found": NUMBER}),
    (fun("x", fun("y", ref("x"))), COUNT, Unfit, {"place": (0,), "wanted": NUMBER}),
    (rowof(), NUMBER, Unfit, {"place": (), "wanted": NUMBER}),
    (rowof(), COUNT, Unfit, {"place": (), "wanted": COUNT}),
    (rowof(), pair(NUMBER, NUMBER), Unfit, {"place": (), "wanted": pair(NUMBER, NUMBER)}),
    (rowof(num(1)), NUMBER, Unmet, {"place": (), "wanted": NUMBER, "found": row(NUMBER)}),
    (rowof(num(1), BAD), NUMBER, Misused, {"place": (1, 0), "found": NUMBER}),
    (rowof(num(1), YES), NUMBER, Unmet, {"place": (1,), "wanted": NUMBER, "found": TRUTH}),
    (rowof(rowof()), NUMBER, Unsaid, {"place": (0,)}),
    (rowof(num(1), YES), row(TRUTH), Unmet, {"place": (0,), "wanted": TRUTH, "found": NUMBER}),
    (rowof(YES, num(1), BAD), row(TRUTH), Unmet, {"place": (1,), "wanted": TRUTH, "found": NUMBER}),
    (rowof(rowof()), row(NUMBER), Unfit, {"place": (0,), "wanted": NUMBER}),
    (both(num(1), YES), pair(TRUTH, NUMBER), Unmet, {"place": (0,), "wanted": TRUTH, "found": NUMBER}),
    (both(num(1), YES), pair(NUMBER, NUMBER), Unmet, {"place": (1,), "wanted": NUMBER, "found": TRUTH}),
    (both(num(1), YES), row(NUMBER), Unmet, {"place": (), "wanted": row(NUMBER), "found": pair(NUMBER, TRUTH)}),
    (both(num(1), fun("x", ref("x"))), NUMBER, Unsaid, {"place": (1,)}),
    (both(num(1), fun("x", ref("x"))), pair(NUMBER, NUMBER), Unfit, {"place": (1,), "wanted": NUMBER}),
    (ahead(YES, rowof()), row(NUMBER), Unmet, {"place": (0,), "wanted": NUMBER, "found": TRUTH}),
    (ahead(num(1), rowof(YES)), row(NUMBER), Unmet, {"place": (1, 0), "wanted": NUMBER, "found": TRUTH}),
    (ahead(num(1), YES), row(NUMBER), Unmet, {"place": (1,), "wanted": row(NUMBER), "found": TRUTH}),
    (ahead(num(1), rowof()), NUMBER, Unmet, {"place": (), "wanted": NUMBER, "found": row(NUMBER)}),
    (ahead(rowof(), rowof()), NUMBER, Unsaid, {"place": (0,)}),
    (ahead(num(1), rowof(YES)), NUMBER, Unmet, {"place": (1, 0), "wanted": NUMBER, "found": TRUTH}),
    (cond(YES, num(1), YES), TRUTH, Unmet, {"place": (1,), "wanted": TRUTH, "found": NUMBER}),
    (cond(YES, YES, num(1)), TRUTH, Unmet, {"place": (2,), "wanted": TRUTH, "found": NUMBER}),
    (cond(num(1), BAD, BAD), TRUTH, Unmet, {"place": (0,), "wanted": TRUTH, "found": NUMBER}),
    (let("x", num(1), ref("x")), TRUTH, Unmet, {"place": (1,), "wanted": TRUTH, "found": NUMBER}),
    (let("x", rowof(), ref("x")), row(NUMBER), Unsaid, {"place": (0,)}),
    (let("x", num(1), fun("y", ref("y"))), NUMBER, Unfit, {"place": (1,), "wanted": NUMBER}),
    (fold(rowof(num(1)), rowof(), ADD), row(NUMBER), Unsaid, {"place": (1,)}),
    (fold(rowof(num(1)), num(0), BAD), TRUTH, Misused, {"place": (2, 0), "found": NUMBER}),
    (fold(rowof(num(1)), num(0), ADD), TRUTH, Unmet, {"place": (), "wanted": TRUTH, "found": NUMBER}),
    (left(both(rowof(), YES)), row(NUMBER), Unsaid, {"place": (0, 0)}),
    (left(both(num(1), YES)), TRUTH, Unmet, {"place": (), "wanted": TRUTH, "found": NUMBER}),
    (right(both(num(1), YES)), NUMBER, Unmet, {"place": (), "wanted": NUMBER, "found": TRUTH}),
    (told(num(1), NUMBER), TRUTH, Unmet, {"place": (), "wanted": TRUTH, "found": NUMBER}),
    (told(BAD, NUMBER), TRUTH, Misused, {"place": (0, 0), "found": NUMBER}),
    (told(num(1), A), TRUTH, Unbound, {"place": (), "name": "a"}),
    (told(fun("x", ref("x")), COUNT), NUMBER, Unmet, {"place": (), "wanted": NUMBER, "found": COUNT}),
    (plus(num(1), BAD), TRUTH, Misused, {"place": (1, 0), "found": NUMBER}),
    (plus(num(1), num(2)), TRUTH, Unmet, {"place": (), "wanted": TRUTH, "found": NUMBER}),
    (less(num(1), num(2)), NUMBER, Unmet, {"place": (), "wanted": NUMBER, "found": TRUTH}),
    (like(num(1), num(2)), NUMBER, Unmet, {"place": (), "wanted": NUMBER, "found": TRUTH}),
    (like(told(ADD, ADDS), ADD), NUMBER, NoRule, {"place": (), "kind": ADDS}),
    (like(told(ADD, ADDS), num(1)), NUMBER, Unmet, {"place": (1,), "wanted": ADDS, "found": NUMBER}),
    (call(told(ADD, ADDS), num(1)), NUMBER, Unmet, {"place": (), "wanted": NUMBER, "found": COUNT}),
    (call(told(ADD, ADDS), num(1), num(2)), COUNT, Unmet, {"place": (), "wanted": COUNT, "found": NUMBER}),
    (call(told(ADD, ADDS), num(1), YES), COUNT, Unmet, {"place": (1,), "wanted": NUMBER, "found": TRUTH}),
    (call(fun("x", ref("x")), num(1)), NUMBER, Unsaid, {"place": (0,)}),
    (call(num(1), num(2)), TRUTH, Misused, {"place": (0,), "found": NUMBER}),
    (ref("x"), NUMBER, Unbound, {"place": (), "name": "x"}),
    (call(ref("x"), BAD), NUMBER, Unbound, {"place": (0,), "name": "x"}),
]

# Every place in every form for a part: the form of the part, and the place. The other parts go, ahead of it and
# behind it, where the part is a number, but for those told with a kind.
PLACES = [
    (lambda part: told(part, NUMBER), (0,), NUMBER),
    (lambda part: told(fun("q", part), COUNT), (0, 0), COUNT),
    (lambda part: call(told(fun("q", ref("q")), COUNT), part), (1,), NUMBER),
    (lambda part: call(told(ADD, ADDS), num(1), part), (1,), NUMBER),
    (lambda part: call(told(ADD, ADDS), part, num(1)), (0, 1), NUMBER),
    (lambda part: call(told(fun("q", part), COUNT), num(1)), (0, 0, 0), NUMBER),
    (lambda part: call(ref("same"), part), (1,), NUMBER),
    (lambda part: call(ref("always"), part, YES), (0, 1), NUMBER),
    (lambda part: call(ref("always"), YES, part), (1,), TRUTH),
    (lambda part: both(part, YES), (0,), pair(NUMBER, TRUTH)),
    (lambda part: both(YES, part), (1,), pair(TRUTH, NUMBER)),
    (lambda part: left(both(part, YES)), (0, 0), NUMBER),
    (lambda part: right(both(YES, part)), (0, 1), NUMBER),
    (lambda part: rowof(part), (0,), row(NUMBER)),
    (lambda part: rowof(num(1), part, num(1)), (1,), row(NUMBER)),
    (lambda part: rowof(*[num(1)] * 39, part), (39,), row(NUMBER)),
    (lambda part: ahead(part, rowof()), (0,), row(NUMBER)),
    (lambda part: ahead(num(1), rowof(part)), (1, 0), row(NUMBER)),
    (lambda part: fold(rowof(part), num(1), ADD), (0, 0), NUMBER),
    (lambda part: fold(rowof(num(1)), part, ADD), (1,), NUMBER),
    (lambda part: fold(rowof(num(1)), num(1), fun("q", fun("r", part))), (2, 0, 0), NUMBER),
    (lambda part: cond(less(part, num(1)), num(1), num(1)), (0, 0), NUMBER),
    (lambda part: cond(YES, part, num(1)), (1,), NUMBER),
    (lambda part: cond(YES, num(1), part), (2,), NUMBER),
    (lambda part: let("q", part, ref("q")), (0,), NUMBER),
    (lambda part: let("q", YES, part), (1,), NUMBER),
    (lambda part: plus(part, num(1)), (0,), NUMBER),
    (lambda part: plus(num(1), part), (1,), NUMBER),
    (lambda part: less(part, num(1)), (0,), TRUTH),
    (lambda part: less(num(1), part), (1,), TRUTH),
    (lambda part: like(part, num(1)), (0,), TRUTH),
    (lambda part: like(num(1), part), (1,), TRUTH),
]

# Forms that are refused wherever they stand where a number goes: with the class and the values, the place from there.
SPOILT = [
    (BAD, Misused, {"place": (0,), "found": NUMBER}),
    (ref("nowhere"), Unbound, {"place": (), "name": "nowhere"}),
    (call(YES, num(1)), Misused, {"place": (0,), "found": TRUTH}),
    (told(num(1), pair(A, B)), Unbound, {"place": (), "name": "a"}),
    (told(fun("x", ref("x")), TRUTH), Unfit, {"place": (0,), "wanted": TRUTH}),
    (plus(num(1), fun("x", ref("x"))), Unfit, {"place": (1,), "wanted": NUMBER}),
    (left(both(num(1), fun("x", ref("x")))), Unsaid, {"place": (0, 1)}),
    (cond(num(3), num(1), num(1)), Unmet, {"place": (0,), "wanted": TRUTH, "found": NUMBER}),
    (cond(like(told(ADD, ADDS), ADD), num(1), num(1)), NoRule, {"place": (0,), "kind": ADDS}),
    (fold(YES, num(1), ADD), Misused, {"place": (0,), "found": TRUTH}),
    (call(ref("long"), ref("empty")), Unsaid, {"place": (1,)}),
]


class WritingTest(unittest.TestCase):
    def setUp(self):
        self.shelf = library(Shelf())

    def up(self, form, core, kind):
        with self.subTest(form=form):
            self.assertEqual(ask(self, self.shelf.write, form), (core, kind))
            self.assertEqual(core_kind(self.shelf, [], core), kind)

    def down(self, form, kind, core):
        with self.subTest(form=form, kind=kind):
            self.assertEqual(ask(self, self.shelf.write_as, form, kind), core)
            self.assertEqual(core_kind(self.shelf, [], core), kind)

    def refused(self, error, values, form):
        with self.subTest(form=form):
            refusal(self, error, values, self.shelf.write, form)

    def refused_as(self, error, values, form, kind):
        with self.subTest(form=form, kind=kind):
            refusal(self, error, values, self.shelf.write_as, form, kind)


class FormTest(WritingTest):
    def test_what_comes_up(self):
        for form, core, kind in UP:
            self.up(form, core, kind)

    def test_what_comes_up_goes_down_with_its_own_kind(self):
        for form, core, kind in UP:
            self.down(form, kind, core)

    def test_what_is_found_comes_up_from_told(self):
        for form, core, kind in UP:
            self.up(told(form, kind), core, kind)
        for form, kind, core in DOWN:
            self.up(told(form, kind), core, kind)

    def test_what_goes_down(self):
        for form, kind, core in DOWN:
            self.down(form, kind, core)

    def test_what_is_refused_where_nothing_is_told(self):
        for form, error, values in REFUSED_UP:
            self.refused(error, values, form)

    def test_what_is_refused_where_a_kind_is_told(self):
        for form, kind, error, values in REFUSED_DOWN:
            self.refused_as(error, values, form, kind)

    def test_what_is_found_to_be_of_another_kind_than_is_told(self):
        told_apart = ("rowof", "ahead", "both", "if", "let")
        count = 0
        for form, core, found in UP:
            if form[0] not in told_apart:
                for kind in KINDS:
                    if kind != found:
                        self.refused_as(Unmet, {"place": (), "wanted": kind, "found": found}, form, kind)
                        count += 1
        self.assertGreater(count, 150)

    def test_pairs_and_rows_of_items_told_what_is_none_are_found_first(self):
        for form, core, found in UP:
            if form[0] in ("rowof", "ahead", "both"):
                for kind in KINDS:
                    if kind[0] != found[0]:
                        self.refused_as(Unmet, {"place": (), "wanted": kind, "found": found}, form, kind)

    def test_funs_and_rows_of_no_items_told_what_does_not_fit(self):
        for kind in KINDS:
            if kind[0] != "work":
                self.refused_as(Unfit, {"place": (), "wanted": kind}, fun("x", ref("nowhere")), kind)
            if kind[0] != "row":
                self.refused_as(Unfit, {"place": (), "wanted": kind}, rowof(), kind)

    def test_rows_of_as_many_items_as_go(self):
        for many in (1, 2, 39, 40, 41, 60):
            items = [num(turn) for turn in range(many)]
            self.up(rowof(*items), row_core(NUMBER, *items), row(NUMBER))
            self.down(rowof(*items), row(NUMBER), row_core(NUMBER, *items))
            self.refused(Unmet, {"place": (many,), "wanted": NUMBER, "found": TRUTH}, rowof(*items, YES))


class PlaceTest(WritingTest):
    def test_a_number_goes_in_each_place(self):
        for make, place, kind in PLACES:
            form = make(plus(num(1), num(2)))
            with self.subTest(form=form):
                core, found = self.shelf.write(form)
                self.assertEqual(found, kind)
                self.assertEqual(core_kind(self.shelf, [], core), kind)
                self.assertEqual(self.shelf.write_as(form, kind), core)

    def test_a_refusal_below_another_form_has_the_place_from_the_top(self):
        for make, place, kind in PLACES:
            for spoilt, error, values in SPOILT:
                wanted = dict(values, place=place + values["place"])
                self.refused(error, wanted, make(spoilt))
                self.refused_as(error, wanted, make(spoilt), kind)
                # What is said of a form itself comes behind its parts, so it matters not that the kind is another.
                if make(spoilt)[0] not in ("both", "if"):
                    self.refused_as(error, wanted, make(spoilt), pair(kind, kind))

    def test_a_refusal_two_forms_deep(self):
        for outer, outer_place, kind in PLACES:
            for inner, inner_place, found in PLACES:
                if found == NUMBER:
                    form = outer(inner(BAD))
                    self.refused(Misused, {"place": outer_place + inner_place + (0,), "found": NUMBER}, form)

    def test_the_first_of_two_refusals_comes(self):
        for make, places in (
            (lambda a, b: call(a, b), [(0,), (1,)]),
            (lambda a, b: both(a, b), [(0,), (1,)]),
            (lambda a, b: rowof(a, b), [(0,), (1,)]),
            (lambda a, b: ahead(a, b), [(0,), (1,)]),
            (lambda a, b: plus(a, b), [(0,), (1,)]),
            (lambda a, b: less(a, b), [(0,), (1,)]),
            (lambda a, b: like(a, b), [(0,), (1,)]),
            (lambda a, b: let("x", a, b), [(0,), (1,)]),
            (lambda a, b: fold(a, b, b), [(0,), (1,)]),
            (lambda a, b: cond(a, b, b), [(0,), (1,)]),
            (lambda a, b: cond(YES, a, b), [(1,), (2,)]),
            (lambda a, b: fold(rowof(num(1)), a, b), [(1,), (2,)]),
            (lambda a, b: call(told(ADD, ADDS), a, b), [(0, 1), (1,)]),
            (lambda a, b: call(ref("always"), a, b), [(0, 1), (1,)]),
            (lambda a, b: rowof(num(1), a, num(1), b), [(1,), (3,)]),
        ):
            for first, error, values in SPOILT:
                form = make(first, ref("nowhere"))
                self.refused(error, dict(values, place=places[0] + values["place"]), form)
                self.refused(Misused, {"place": places[0] + (0,), "found": NUMBER}, make(BAD, first))

    def test_a_part_that_is_not_what_is_wanted_is_refused_ahead_of_the_next(self):
        for form, place, wanted, found in (
            (rowof(num(1), YES, BAD), (1,), NUMBER, TRUTH), (cond(num(1), BAD, BAD), (0,), TRUTH, NUMBER),
            (plus(YES, BAD), (0,), NUMBER, TRUTH), (less(rowof(YES), BAD), (0,), NUMBER, row(TRUTH)),
            (call(told(ADD, ADDS), YES, BAD), (0, 1), NUMBER, TRUTH),
            (let("x", plus(num(1), YES), BAD), (0, 1), NUMBER, TRUTH),
        ):
            self.refused(Unmet, {"place": place, "wanted": wanted, "found": found}, form)


class NameTest(WritingTest):
    def test_the_innermost_of_equal_names_is_meant(self):
        self.up(let("x", num(1), let("x", YES, ref("x"))),
                call(("fun", NUMBER, call(("fun", TRUTH, var(0)), YES)), num(1)), TRUTH)
        self.up(let("x", num(1), both(let("x", YES, ref("x")), ref("x"))),
                call(("fun", NUMBER, both(call(("fun", TRUTH, var(0)), YES), var(0))), num(1)), pair(TRUTH, NUMBER))
        self.down(fun("x", fun("y", let("x", ref("y"), both(ref("x"), fun("y", ref("x")))))),
                  work(NUMBER, work(TRUTH, pair(TRUTH, work(NUMBER, TRUTH)))),
                  ("fun", NUMBER, ("fun", TRUTH, call(("fun", TRUTH, both(var(0), ("fun", NUMBER, var(1)))), var(0)))))

    def test_a_name_that_is_bound_hides_a_definition_s(self):
        self.up(ref("nay"), definition(9), work(TRUTH, TRUTH))
        self.up(let("nay", num(1), ref("nay")), call(SAME, num(1)), NUMBER)
        self.down(fun("nay", call(ref("nay"), num(1))), work(COUNT, NUMBER), ("fun", COUNT, call(var(0), num(1))))
        self.refused(Misused, {"place": (1, 0), "found": NUMBER}, let("nay", num(1), call(ref("nay"), YES)))
        self.up(let("nay", ref("nay"), call(ref("nay"), YES)),
                call(("fun", work(TRUTH, TRUTH), call(var(0), YES)), definition(9)), TRUTH)
        self.up(both(let("same", num(1), ref("same")), call(ref("same"), YES)),
                both(call(SAME, num(1)), call(definition(0, TRUTH), YES)), pair(NUMBER, TRUTH))

    def test_a_bound_name_is_of_the_kind_that_it_was_bound_with(self):
        for kind in KINDS:
            self.down(fun("x", ref("x")), work(kind, kind), ("fun", kind, var(0)))
            for other in KINDS:
                if other != kind:
                    self.refused_as(Unmet, {"place": (0,), "wanted": other, "found": kind}, fun("x", ref("x")),
                                    work(kind, other))

    def test_names_at_the_edges_and_names_like_the_words_of_forms(self):
        for text in ("a", "z", "abcdefgh", "number", "yes", "name", "fun", "call", "end", "var", "def", "row", "gap"):
            self.up(let(text, num(1), ref(text)), call(SAME, num(1)), NUMBER)
            self.refused(Unbound, {"place": (), "name": text}, ref(text))
        self.refused(Unbound, {"place": (1,), "name": "abcdefgi"}, let("abcdefgh", num(1), ref("abcdefgi")))


class DeepTest(WritingTest):
    def test_kinds_that_lie_deep(self):
        for way in WRAPS:
            for depth in DEPTHS:
                with self.subTest(way=way, depth=depth):
                    kind = deep(WRAPS[way], depth, NUMBER)
                    self.assertEqual(self.shelf.write(told(rowof(), row(kind))), (none(kind), row(kind)))
                    self.assertEqual(self.shelf.write_as(fun("x", ref("x")), work(kind, kind)), ("fun", kind, var(0)))
                    other = deep(WRAPS[way], depth, row(NUMBER))
                    self.refused_as(Unmet, {"place": (0,), "wanted": other, "found": kind}, fun("x", ref("x")),
                                    work(kind, other))
                    self.refused(Unbound, {"place": (), "name": "a"}, told(num(1), deep(WRAPS[way], depth, A)))

    def test_forms_that_lie_deep(self):
        for make, place, kind in PLACES:
            if kind == NUMBER:
                for depth in (38, 39, 40, 41, 60):
                    with self.subTest(form=make(num(1)), depth=depth):
                        form = deep(make, depth // len(place), num(1))
                        core, found = self.shelf.write(form)
                        self.assertEqual(found, NUMBER)
                        self.assertEqual(core_kind(self.shelf, [], core), NUMBER)
                        spoilt = deep(make, depth // len(place), BAD)
                        with self.assertRaises(Misused) as taken:
                            self.shelf.write(spoilt)
                        self.assertEqual(taken.exception.place, place * (depth // len(place)) + (0,))

    def test_many_calls_of_one_head(self):
        for many in (39, 40, 60):
            kind = NUMBER
            form = num(1)
            for _ in range(many):
                kind = work(NUMBER, kind)
                form = fun("x", form)
            form = call(told(form, kind), *[num(1)] * many)
            self.assertEqual(self.shelf.write(form)[1], NUMBER)
            self.refused(Misused, {"place": (0,), "found": NUMBER}, call(form, BAD))

    def test_rows_within_rows_as_deep_and_as_long_as_they_may_be(self):
        form = rowof(*[num(1)] * 40)
        kind = row(NUMBER)
        for _ in range(38):
            form = rowof(*[told(rowof(), kind)] * 39, form)
            kind = row(kind)
        core, found = self.shelf.write(form)
        self.assertEqual(found, kind)
        self.assertEqual(core_kind(self.shelf, [], core), kind)
        end, found = self.shelf.end(form, 0)
        self.assertEqual(found, kind)
        for depth in range(38):
            for _ in range(39):
                self.assertEqual(end[1][0], "none")
                end = end[2]
            self.assertEqual(end[2][0], "none")
            end = end[1]
        self.assertEqual(end, row_core(NUMBER, *[num(1)] * 40))


if __name__ == "__main__":
    unittest.main()
