"""Points [3], [7], [8], [10] and [13]: tell, and definitions' names in forms, with gaps and with likenesses."""

import unittest

from tests.helper import (
    DEPTHS, EDGE_NAMES, LIBRARY, NO, NUMBER, NUMBERS, TRUTH, TRUTHS, WRAPS, YES, A, B, C, ahead, ask, both, call, cond,
    deep, definition, fold, fun, gap, left, let, library, like, like_work, likepair, likerow, name, none, num, pair,
    plus, ref, refusal, right, row, row_core, rowof, told, var, work,
)
from twomeet.core import core_kind
from twomeet.errors import Loose, Misused, NoRule, Told, Unbound, Unfit, Unmet, Unsaid
from twomeet.shelf import Shelf
from twomeet.steps import step

ADD = told(fun("x", fun("y", plus(ref("x"), ref("y")))), work(NUMBER, work(NUMBER, NUMBER)))
ADDER = ("fun", NUMBER, ("fun", NUMBER, plus(var(1), var(0))))
ADDS = work(NUMBER, work(NUMBER, NUMBER))
COUNT = work(NUMBER, NUMBER)
SMALL = told(fun("n", YES), work(NUMBER, TRUTH))
SMALL_CORE = ("fun", NUMBER, YES)
BAD = left(num(1))
ONE_BOTH = both(num(1), YES)
ONE_KIND = pair(NUMBER, TRUTH)
G0, G1 = gap(0), gap(1)

# The numbers of the library's definitions.
NUMBER_OF = dict([(one[0], number) for number, one in enumerate(LIBRARY)])


def at(text, *kinds):
    return definition(NUMBER_OF[text], *kinds)


# Calls of definitions' names that come up: the form, its core, its kind.
UP = [
    (ref("nay"), at("nay"), work(TRUTH, TRUTH)),
    (call(ref("nay"), YES), call(at("nay"), YES), TRUTH),
    (call(ref("same"), num(1)), call(at("same", NUMBER), num(1)), NUMBER),
    (call(ref("same"), rowof(YES)), call(at("same", row(TRUTH)), row_core(TRUTH, YES)), row(TRUTH)),
    (call(ref("same"), ref("nay")), call(at("same", work(TRUTH, TRUTH)), at("nay")), work(TRUTH, TRUTH)),
    # More parts than the kind takes by itself.
    (call(ref("same"), ref("nay"), YES), call(at("same", work(TRUTH, TRUTH)), at("nay"), YES), TRUTH),
    (call(ref("same"), ADD, num(1), num(2)), call(at("same", ADDS), ADDER, num(1), num(2)), NUMBER),
    (call(ref("always"), ADD, YES, num(1)), call(at("always", ADDS, TRUTH), ADDER, YES, num(1)), COUNT),
    (call(ref("always"), num(1), YES), call(at("always", NUMBER, TRUTH), num(1), YES), NUMBER),
    # Kinds are in the order of free.
    (call(ref("turned"), ONE_BOTH), call(at("turned", TRUTH, NUMBER), ONE_BOTH), pair(TRUTH, NUMBER)),
    (call(ref("single"), num(1)), call(at("single", NUMBER), num(1)), row(NUMBER)),
    # Parts come up where gaps are in their kinds, and go down where none are by then.
    (call(ref("each"), SMALL), call(at("each", NUMBER, TRUTH), SMALL_CORE), work(row(NUMBER), row(TRUTH))),
    (call(ref("each"), SMALL, rowof()), call(at("each", NUMBER, TRUTH), SMALL_CORE, none(NUMBER)), row(TRUTH)),
    (call(ref("each"), ref("nay"), rowof(YES)),
     call(at("each", TRUTH, TRUTH), at("nay"), row_core(TRUTH, YES)), row(TRUTH)),
    (call(ref("joined"), rowof(num(1)), rowof()),
     call(at("joined", NUMBER), row_core(NUMBER, num(1)), none(NUMBER)), row(NUMBER)),
    (call(ref("joined"), rowof(num(1)), ref("empty")),
     call(at("joined", NUMBER), row_core(NUMBER, num(1)), at("empty", NUMBER)), row(NUMBER)),
    (call(ref("joined"), rowof(ADD), rowof(fun("x", fun("y", ref("y"))))),
     call(at("joined", ADDS), row_core(ADDS, ADDER), row_core(ADDS, ("fun", NUMBER, ("fun", NUMBER, var(0))))),
     row(ADDS)),
    (call(ref("behind"), SMALL, told(fun("t", num(1)), work(TRUTH, NUMBER))),
     call(at("behind", TRUTH, NUMBER, TRUTH), SMALL_CORE, ("fun", TRUTH, num(1))), work(TRUTH, TRUTH)),
    (call(ref("behind"), SMALL, told(fun("t", num(1)), work(TRUTH, NUMBER)), NO),
     call(at("behind", TRUTH, NUMBER, TRUTH), SMALL_CORE, ("fun", TRUTH, num(1)), NO), TRUTH),
    # Likenesses come ahead of all parts, in the order of needs.
    (call(ref("alike"), num(1)), call(at("alike", NUMBER), NUMBERS, num(1)), work(NUMBER, TRUTH)),
    (call(ref("alike"), YES, NO), call(at("alike", TRUTH), TRUTHS, YES, NO), TRUTH),
    (call(ref("within"), ONE_BOTH, rowof()),
     call(at("within", ONE_KIND), likepair(NUMBERS, TRUTHS), ONE_BOTH, none(ONE_KIND)), TRUTH),
    (call(ref("within"), rowof(num(1)), rowof()),
     call(at("within", row(NUMBER)), likerow(NUMBERS), row_core(NUMBER, num(1)), none(row(NUMBER))), TRUTH),
    (call(ref("other"), ONE_BOTH, both(num(2), NO)),
     call(at("other", NUMBER, TRUTH), TRUTHS, NUMBERS, ONE_BOTH, both(num(2), NO)), TRUTH),
    (call(ref("place"), rowof(both(YES, ADD)), NO, fun("x", fun("y", ref("x")))),
     call(at("place", ADDS, TRUTH), TRUTHS, row_core(pair(TRUTH, ADDS), both(YES, ADDER)), NO,
          ("fun", NUMBER, ("fun", NUMBER, var(1)))), ADDS),
    # Names of definitions within calls of definitions' names, told and in a let.
    (call(ref("same"), call(ref("same"), num(1))), call(at("same", NUMBER), call(at("same", NUMBER), num(1))), NUMBER),
    (told(ref("same"), COUNT), at("same", NUMBER), COUNT),
    (call(told(ref("same"), COUNT), num(1)), call(at("same", NUMBER), num(1)), NUMBER),
    (let("f", told(ref("same"), COUNT), call(ref("f"), num(1))),
     call(("fun", COUNT, call(var(0), num(1))), at("same", NUMBER)), NUMBER),
    (fold(rowof(num(1)), YES, told(fun("x", ref("same")), work(NUMBER, work(TRUTH, TRUTH)))),
     fold(row_core(NUMBER, num(1)), YES, ("fun", NUMBER, at("same", TRUTH))), TRUTH),
    (fold(rowof(YES), YES, ref("alike")), fold(row_core(TRUTH, YES), YES, call(at("alike", TRUTH), TRUTHS)), TRUTH),
    (ahead(num(1), ref("empty")), ("more", num(1), at("empty", NUMBER)), row(NUMBER)),
    (cond(YES, ref("nay"), ref("same")), cond(YES, at("nay"), at("same", TRUTH)), work(TRUTH, TRUTH)),
]

# Those that go down and don't come up: the form, the kind, its core.
DOWN = [
    (ref("same"), COUNT, at("same", NUMBER)),
    (ref("same"), work(ADDS, ADDS), at("same", ADDS)),
    (ref("empty"), row(TRUTH), at("empty", TRUTH)),
    (ref("always"), work(NUMBER, work(TRUTH, NUMBER)), at("always", NUMBER, TRUTH)),
    (call(ref("always"), num(1)), work(TRUTH, NUMBER), call(at("always", NUMBER, TRUTH), num(1))),
    (ref("turned"), work(pair(NUMBER, TRUTH), pair(TRUTH, NUMBER)), at("turned", TRUTH, NUMBER)),
    (call(ref("behind"), SMALL), work(work(row(TRUTH), NUMBER), work(row(TRUTH), TRUTH)),
     call(at("behind", row(TRUTH), NUMBER, TRUTH), SMALL_CORE)),
    (ref("alike"), like_work(row(TRUTH)), call(at("alike", row(TRUTH)), likerow(TRUTHS))),
    (ref("other"), like_work(pair(NUMBER, row(TRUTH))),
     call(at("other", NUMBER, row(TRUTH)), likerow(TRUTHS), NUMBERS)),
    (fun("x", call(ref("alike"), ref("x"))), like_work(NUMBER),
     ("fun", NUMBER, call(at("alike", NUMBER), NUMBERS, var(0)))),
    (call(ref("same"), ref("nay")), work(TRUTH, TRUTH), call(at("same", work(TRUTH, TRUTH)), at("nay"))),
]

# Those that are refused: the form, the kind that is told or None, the class, the values.
REFUSED = [
    # Gaps are left where nothing is told.
    (ref("same"), None, Unsaid, {"place": ()}),
    (ref("empty"), None, Unsaid, {"place": ()}),
    (ref("alike"), None, Unsaid, {"place": ()}),
    (call(ref("always"), num(1)), None, Unsaid, {"place": ()}),
    (call(ref("behind"), SMALL), None, Unsaid, {"place": ()}),
    (both(YES, call(ref("always"), num(1))), None, Unsaid, {"place": (1,)}),
    (call(ref("same"), ref("empty")), None, Unsaid, {"place": (1,)}),
    (call(ref("same"), ref("empty")), row(NUMBER), Unsaid, {"place": (1,)}),
    (call(ref("same"), fun("x", ref("x"))), COUNT, Unsaid, {"place": (1,)}),
    (call(ref("same"), fun("x", ref("x")), num(1)), None, Unsaid, {"place": (0, 1)}),
    (call(ref("joined"), rowof(), rowof(num(1))), None, Unsaid, {"place": (0, 1)}),
    (call(ref("joined"), rowof(), rowof(num(1))), row(NUMBER), Unsaid, {"place": (0, 1)}),
    (call(ref("each"), ref("same"), rowof(num(1))), row(NUMBER), Unsaid, {"place": (0, 1)}),
    (call(ref("behind"), SMALL, fun("t", num(1))), None, Unsaid, {"place": (1,)}),
    (let("f", ref("same"), num(1)), None, Unsaid, {"place": (0,)}),
    (fold(ref("empty"), num(1), ADD), None, Unsaid, {"place": (0,)}),
    # What is called is no work.
    (call(ref("empty"), BAD), None, Misused, {"place": (0,), "found": row(G0)}),
    (call(ref("empty"), BAD, BAD), NUMBER, Misused, {"place": (0, 0), "found": row(G0)}),
    (call(ref("same"), num(1), BAD), None, Misused, {"place": (0,), "found": NUMBER}),
    (call(ref("same"), num(1), BAD, BAD), None, Misused, {"place": (0, 0), "found": NUMBER}),
    (call(ref("nay"), YES, BAD), None, Misused, {"place": (0,), "found": TRUTH}),
    (call(ref("single"), num(1), BAD), None, Misused, {"place": (0,), "found": row(NUMBER)}),
    (call(ref("turned"), ONE_BOTH, BAD), None, Misused, {"place": (0,), "found": pair(TRUTH, NUMBER)}),
    (call(ref("same"), ADD, num(1), num(2), BAD), None, Misused, {"place": (0,), "found": NUMBER}),
    # Parts that come up and don't meet.
    (call(ref("joined"), num(1)), None, Unmet, {"place": (1,), "wanted": row(G0), "found": NUMBER}),
    (call(ref("joined"), num(1), BAD), None, Unmet, {"place": (0, 1), "wanted": row(G0), "found": NUMBER}),
    (call(ref("joined"), ref("nay")), TRUTH, Unmet, {"place": (1,), "wanted": row(G0), "found": work(TRUTH, TRUTH)}),
    (call(ref("turned"), rowof(YES)), None, Unmet, {"place": (1,), "wanted": pair(G1, G0), "found": row(TRUTH)}),
    (call(ref("each"), num(1), BAD), None, Unmet, {"place": (0, 1), "wanted": work(G0, G1), "found": NUMBER}),
    (call(ref("behind"), SMALL, SMALL), None, Unmet,
     {"place": (1,), "wanted": work(G0, NUMBER), "found": work(NUMBER, TRUTH)}),
    (call(ref("behind"), SMALL, num(1), BAD), None, Unmet,
     {"place": (0, 1), "wanted": work(G0, NUMBER), "found": NUMBER}),
    (call(ref("place"), rowof(num(1))), None, Unmet,
     {"place": (1,), "wanted": row(pair(G1, G0)), "found": row(NUMBER)}),
    # Parts that go down, for no gaps are left in their kinds.
    (call(ref("nay"), num(1)), None, Unmet, {"place": (1,), "wanted": TRUTH, "found": NUMBER}),
    (call(ref("nay"), fun("x", BAD)), None, Unfit, {"place": (1,), "wanted": TRUTH}),
    (call(ref("joined"), rowof(num(1)), rowof(YES)), None, Unmet, {"place": (1, 0), "wanted": NUMBER, "found": TRUTH}),
    (call(ref("joined"), rowof(num(1)), num(1)), None, Unmet, {"place": (1,), "wanted": row(NUMBER), "found": NUMBER}),
    (call(ref("alike"), num(1), YES), None, Unmet, {"place": (1,), "wanted": NUMBER, "found": TRUTH}),
    (call(ref("alike"), num(1), rowof()), None, Unfit, {"place": (1,), "wanted": NUMBER}),
    (call(ref("each"), SMALL, rowof(YES)), None, Unmet, {"place": (1, 0), "wanted": NUMBER, "found": TRUTH}),
    (call(ref("same"), ADD, YES), None, Unmet, {"place": (1,), "wanted": NUMBER, "found": TRUTH}),
    (call(ref("joined"), rowof(num(1)), ref("nay")), None, Unmet,
     {"place": (1,), "wanted": row(NUMBER), "found": work(TRUTH, TRUTH)}),
    # The last meeting.
    (ref("nay"), NUMBER, Unmet, {"place": (), "wanted": NUMBER, "found": work(TRUTH, TRUTH)}),
    (ref("same"), NUMBER, Unmet, {"place": (), "wanted": NUMBER, "found": work(G0, G0)}),
    (ref("same"), work(NUMBER, TRUTH), Unmet, {"place": (), "wanted": work(NUMBER, TRUTH), "found": work(G0, G0)}),
    (ref("empty"), NUMBER, Unmet, {"place": (), "wanted": NUMBER, "found": row(G0)}),
    (ref("turned"), work(ONE_KIND, ONE_KIND), Unmet,
     {"place": (), "wanted": work(ONE_KIND, ONE_KIND), "found": work(pair(G1, G0), pair(G0, G1))}),
    (call(ref("always"), num(1)), work(TRUTH, TRUTH), Unmet,
     {"place": (), "wanted": work(TRUTH, TRUTH), "found": work(G1, NUMBER)}),
    (call(ref("behind"), SMALL), work(work(TRUTH, NUMBER), work(NUMBER, TRUTH)), Unmet,
     {"place": (), "wanted": work(work(TRUTH, NUMBER), work(NUMBER, TRUTH)),
      "found": work(work(G0, NUMBER), work(G0, TRUTH))}),
    (call(ref("same"), num(1)), TRUTH, Unmet, {"place": (), "wanted": TRUTH, "found": NUMBER}),
    (call(ref("same"), ADD, num(1)), NUMBER, Unmet, {"place": (), "wanted": NUMBER, "found": COUNT}),
    (plus(num(1), ref("same")), None, Unmet, {"place": (1,), "wanted": NUMBER, "found": work(G0, G0)}),
    (plus(num(1), call(ref("same"), YES)), None, Unmet, {"place": (1,), "wanted": NUMBER, "found": TRUTH}),
    (rowof(num(1), ref("empty")), None, Unmet, {"place": (1,), "wanted": NUMBER, "found": row(G0)}),
    # No definition has the name.
    (ref("sane"), None, Unbound, {"place": (), "name": "sane"}),
    (ref("sane"), COUNT, Unbound, {"place": (), "name": "sane"}),
    (call(ref("sane"), BAD, BAD), None, Unbound, {"place": (0, 0), "name": "sane"}),
    (call(ref("same"), ref("sane")), None, Unbound, {"place": (1,), "name": "sane"}),
    # No rule gives the likeness; that comes last.
    (call(ref("alike"), ADD), None, NoRule, {"place": (0,), "kind": ADDS}),
    (call(ref("alike"), ADD, ADD), None, NoRule, {"place": (0, 0), "kind": ADDS}),
    (both(YES, call(ref("alike"), ADD, ADD)), None, NoRule, {"place": (1, 0, 0), "kind": ADDS}),
    (call(ref("alike"), ADD, BAD), None, Misused, {"place": (1, 0), "found": NUMBER}),
    (call(ref("alike"), ADD, num(1)), None, Unmet, {"place": (1,), "wanted": ADDS, "found": NUMBER}),
    (call(ref("alike"), ADD, ADD), NUMBER, Unmet, {"place": (), "wanted": NUMBER, "found": TRUTH}),
    (call(ref("alike"), ADD, ADD, BAD), None, Misused, {"place": (0,), "found": TRUTH}),
    (ref("alike"), like_work(ADDS), NoRule, {"place": (), "kind": ADDS}),
    (ref("alike"), like_work(pair(row(COUNT), ADDS)), NoRule, {"place": (), "kind": COUNT}),
    (call(ref("within"), both(num(1), ADD), rowof()), None, NoRule, {"place": (0, 0), "kind": ADDS}),
    (ref("other"), like_work(pair(ADDS, COUNT)), NoRule, {"place": (), "kind": COUNT}),
    (ref("other"), like_work(pair(ADDS, NUMBER)), NoRule, {"place": (), "kind": ADDS}),
    (ref("other"), like_work(pair(NUMBER, row(COUNT))), NoRule, {"place": (), "kind": COUNT}),
    (call(ref("place"), rowof(both(ADD, YES))), None, NoRule, {"place": (0,), "kind": ADDS}),
]


class NamesTest(unittest.TestCase):
    def setUp(self):
        self.shelf = library(Shelf())

    def test_what_comes_up(self):
        for form, core, kind in UP:
            with self.subTest(form=form):
                self.assertEqual(ask(self, self.shelf.write, form), (core, kind))
                self.assertEqual(core_kind(self.shelf, [], core), kind)
                self.assertEqual(ask(self, self.shelf.write_as, form, kind), core)

    def test_what_goes_down(self):
        for form, kind, core in DOWN:
            with self.subTest(form=form, kind=kind):
                self.assertEqual(ask(self, self.shelf.write_as, form, kind), core)
                self.assertEqual(core_kind(self.shelf, [], core), kind)
                self.assertEqual(self.shelf.write(told(form, kind)), (core, kind))

    def test_what_is_refused(self):
        for form, kind, error, values in REFUSED:
            with self.subTest(form=form, kind=kind):
                if kind is None:
                    refusal(self, error, values, self.shelf.write, form)
                    refusal(self, error, dict(values, place=(0,) + values["place"]), self.shelf.write, rowof(form, BAD))
                else:
                    refusal(self, error, values, self.shelf.write_as, form, kind)
                    place = (0, 0) + values["place"]
                    refusal(self, error, dict(values, place=place), self.shelf.write, both(told(form, kind), BAD))

    def test_one_gap_is_the_same_everywhere(self):
        self.shelf.tell("twin", ["a"], [], work(pair(A, A), A), fun("p", left(ref("p"))))
        self.shelf.tell("mixed", ["a", "b"], [], work(pair(A, B), work(pair(row(B), A), work(B, A))),
                        fun("p", fun("q", fun("r", right(ref("q"))))))
        self.assertEqual(self.shelf.write(call(ref("twin"), both(num(1), num(2)))),
                         (call(definition(14, NUMBER), both(num(1), num(2))), NUMBER))
        refusal(self, Unmet, {"place": (1,), "wanted": pair(G0, G0), "found": pair(NUMBER, TRUTH)},
                self.shelf.write, call(ref("twin"), ONE_BOTH))
        refusal(self, Unmet, {"place": (1, 0, 0), "wanted": TRUTH, "found": NUMBER},
                self.shelf.write, call(ref("mixed"), ONE_BOTH, both(rowof(num(1)), num(1))))
        self.assertEqual(self.shelf.write(call(ref("mixed"), ONE_BOTH, both(rowof(), num(1))))[1], work(TRUTH, NUMBER))

    def test_gaps_that_one_part_finds_in_part(self):
        # The second part's kind has a gap that the first part found, and one that it did not.
        self.shelf.tell("partly", ["a", "b"], [], work(A, work(pair(A, B), B)), fun("x", fun("p", right(ref("p")))))
        self.assertEqual(self.shelf.write(call(ref("partly"), num(1), both(num(2), YES)))[1], TRUTH)
        refusal(self, Unmet, {"place": (1,), "wanted": pair(NUMBER, G1), "found": pair(TRUTH, NUMBER)},
                self.shelf.write, call(ref("partly"), num(1), both(YES, num(1))))
        refusal(self, Unmet, {"place": (1,), "wanted": pair(NUMBER, G1), "found": TRUTH},
                self.shelf.write, call(ref("partly"), num(1), YES))
        # With a gap in it the part comes up, so that what could go down is not found.
        refusal(self, Unsaid, {"place": (1, 0)}, self.shelf.write, call(ref("partly"), ADD, both(ref("same"), YES)))
        refusal(self, Unsaid, {"place": (0, 1)}, self.shelf.write, call(ref("partly"), fun("x", ref("x")), BAD))
        refusal(self, Misused, {"place": (0,), "found": TRUTH},
                self.shelf.write, call(ref("partly"), num(1), both(num(2), YES), BAD))

    def test_gaps_that_hold_names_of_kinds_of_the_definition_around(self):
        # The one that is told has the same names of kinds as those that it uses, in other places.
        self.shelf.tell("swap", ["a", "b"], [], work(pair(A, B), pair(B, A)), fun("p", call(ref("turned"), ref("p"))))
        self.assertEqual(step(self.shelf, definition(14, A, B)),
                         ("fun", pair(A, B), call(at("turned", B, A), var(0))))
        self.assertEqual(step(self.shelf, definition(14, B, A)),
                         ("fun", pair(B, A), call(at("turned", A, B), var(0))))
        self.assertEqual(step(self.shelf, definition(14, row(B), pair(A, B))),
                         ("fun", pair(row(B), pair(A, B)), call(at("turned", pair(A, B), row(B)), var(0))))

    def test_deep_kinds(self):
        for way in WRAPS:
            for depth in DEPTHS:
                kind = deep(WRAPS[way], depth, A)
                shelf = Shelf()
                shelf.tell("same", ["a"], [], work(kind, kind), fun("x", ref("x")))
                wanted = deep(WRAPS[way], depth, TRUTH)
                with self.subTest(way=way, depth=depth):
                    self.assertEqual(shelf.write_as(ref("same"), work(wanted, wanted)), definition(0, TRUTH))
                    self.assertEqual(shelf.write_as(fun("x", call(ref("same"), ref("x"))), work(wanted, wanted)),
                                     ("fun", wanted, call(definition(0, TRUTH), var(0))))
                    gaps = deep(WRAPS[way], depth, G0)
                    refusal(self, Unmet, {"place": (1,), "wanted": gaps, "found": TRUTH}, shelf.write,
                            call(ref("same"), YES))


class LikenessTest(unittest.TestCase):
    def setUp(self):
        self.shelf = library(Shelf())

    def test_a_name_that_is_needed_has_the_likeness_that_is_taken_for_granted(self):
        self.assertEqual(
            step(self.shelf, at("alike", A)),
            ("fun", like_work(A), ("fun", A, ("fun", A, call(var(2), var(1), var(0))))),
        )

    def test_the_first_need_is_outermost_whatever_is_bound_in_between(self):
        form = fun("p", fun("q", let("z", num(1), like(ref("p"), ref("q")))))
        self.shelf.tell("pairs", ["a", "b"], ["a", "b"], like_work(pair(A, B)), form)
        self.shelf.tell("riaps", ["a", "b"], ["b", "a"], like_work(pair(A, B)), form)
        for number, first, second, likeness in (
            (14, A, B, likepair(var(4), var(3))), (15, B, A, likepair(var(3), var(4))),
        ):
            self.assertEqual(
                step(self.shelf, definition(number, A, B)),
                ("fun", like_work(first), ("fun", like_work(second), ("fun", pair(A, B), ("fun", pair(A, B), call(
                    ("fun", NUMBER, call(likeness, var(2), var(1))), num(1)))))),
            )

    def test_rows_and_pairs_of_needed_names_and_others(self):
        kind = row(pair(A, row(NUMBER)))
        self.shelf.tell("rows", ["a"], ["a"], like_work(kind), fun("p", fun("q", like(ref("p"), ref("q")))))
        found = row(pair(TRUTH, row(NUMBER)))
        self.assertEqual(
            step(self.shelf, definition(14, TRUTH)),
            ("fun", like_work(TRUTH), ("fun", found, ("fun", found, call(
                likerow(likepair(var(2), likerow(NUMBERS))), var(1), var(0))))),
        )

    def test_a_name_that_is_not_needed_has_none(self):
        form = fun("p", fun("q", like(ref("p"), ref("q"))))
        for free, needs, kind, lacking in (
            (["a"], [], A, A), (["a", "b"], ["b"], pair(A, B), A), (["a", "b"], ["a"], pair(A, B), B),
            (["a", "b"], [], pair(B, A), B), (["a"], ["a"], pair(A, work(A, A)), work(A, A)),
            (["a", "b"], ["a"], row(pair(pair(A, B), work(A, A))), B),
        ):
            refusal(self, NoRule, {"place": (0, 0), "kind": lacking}, self.shelf.tell, "one", free, needs,
                    like_work(kind), form)
            refusal(self, NoRule, {"place": (), "kind": lacking}, self.shelf.tell, "one", free, needs,
                    like_work(kind), ref("alike"))
            refusal(self, NoRule, {"place": (0, 0), "kind": lacking}, self.shelf.tell, "one", free, needs,
                    like_work(kind), fun("p", call(ref("alike"), ref("p"))))

    def test_a_definition_s_needs_are_given_on_to_another(self):
        self.shelf.tell("twice", ["b"], ["b"], work(B, work(row(row(B)), TRUTH)),
                        fun("x", fun("xs", call(ref("within"), rowof(ref("x")), ref("xs")))))
        self.assertEqual(
            step(self.shelf, definition(14, B)),
            ("fun", like_work(B), ("fun", B, ("fun", row(row(B)), call(
                at("within", row(B)), likerow(var(2)), row_core(B, var(1)), var(0))))),
        )
        rows = rowof(rowof(num(2)), rowof(num(1)))
        self.assertEqual(self.shelf.end(call(ref("twice"), num(1), rows), 1000), (YES, TRUTH))
        self.assertEqual(self.shelf.end(call(ref("twice"), num(3), rows), 1000), (NO, TRUTH))

    def test_the_likeness_is_that_of_the_kind_that_was_found(self):
        for first, second, wanted in (
            (num(1), num(1), YES), (num(1), num(2), NO), (num(10 ** 399), num(10 ** 399 + 1), NO), (YES, YES, YES),
            (NO, YES, NO), (NO, NO, YES), (both(num(1), YES), both(num(1), YES), YES),
            (both(num(1), YES), both(num(1), NO), NO), (both(num(2), YES), both(num(1), YES), NO),
            (rowof(num(1), num(2)), rowof(num(1), num(2)), YES), (rowof(num(1), num(2)), rowof(num(2), num(1)), NO),
            (rowof(num(1), num(2)), rowof(num(1)), NO), (rowof(num(1)), rowof(num(1), num(2)), NO),
            (rowof(num(1)), rowof(), NO), (told(rowof(), row(NUMBER)), rowof(), YES),
            (rowof(rowof(YES), rowof(NO, YES)), rowof(rowof(YES), rowof(NO, YES)), YES),
            (rowof(rowof(YES), rowof(NO, YES)), rowof(rowof(YES), rowof(NO, NO)), NO),
            (both(rowof(both(num(1), YES)), NO), both(rowof(both(num(1), YES)), NO), YES),
            (both(rowof(both(num(1), YES)), NO), both(rowof(both(num(1), NO)), NO), NO),
        ):
            with self.subTest(first=first, second=second):
                self.assertEqual(self.shelf.end(like(first, second), 1000), (wanted, TRUTH))
                self.assertEqual(self.shelf.end(call(ref("alike"), first, second), 1000), (wanted, TRUTH))
                unlike = {YES: NO, NO: YES}[wanted]
                pairs = both(first, num(1)), both(second, num(1))
                self.assertEqual(self.shelf.end(call(ref("other"), *pairs), 1000), (unlike, TRUTH))


class TellTest(unittest.TestCase):
    def setUp(self):
        self.shelf = Shelf()

    def told_number(self, text):
        """The number that a definition without names of kinds is written by."""
        core, kind = self.shelf.write(ref(text))
        self.assertEqual(core[0], "def")
        return core[1]

    def test_none_is_given_back_and_numbers_are_counted_from_0_on(self):
        for number, text in enumerate(EDGE_NAMES):
            self.assertIsNone(self.shelf.tell(text, [], [], NUMBER, num(number)))
        for number, text in enumerate(EDGE_NAMES):
            self.assertEqual(self.shelf.write(ref(text)), (definition(number), NUMBER))
            self.assertEqual(self.shelf.end(ref(text), 1), (num(number), NUMBER))

    def test_the_form_goes_down_with_the_kind(self):
        self.shelf.tell("same", ["a"], [], work(A, A), fun("x", ref("x")))
        self.assertEqual(step(self.shelf, definition(0, B)), ("fun", B, var(0)))
        self.shelf.tell("empty", ["b"], [], row(B), rowof())
        self.assertEqual(step(self.shelf, definition(1, TRUTH)), none(TRUTH))
        refusal(self, Unmet, {"place": (0,), "wanted": B, "found": A}, self.shelf.tell,
                "one", ["a", "b"], [], work(A, B), fun("x", ref("x")))
        refusal(self, Unfit, {"place": (), "wanted": A}, self.shelf.tell, "one", ["a"], [], A, rowof())
        refusal(self, Unmet, {"place": (), "wanted": A, "found": NUMBER}, self.shelf.tell, "one", ["a"], [], A, num(1))
        refusal(self, Unmet, {"place": (0,), "wanted": NUMBER, "found": A}, self.shelf.tell,
                "one", ["a"], [], work(A, NUMBER), fun("x", ref("x")))

    def test_told_within_a_definition_may_have_its_names_and_no_others(self):
        form = fun("x", told(ref("x"), A))
        self.shelf.tell("same", ["a"], [], work(A, A), form)
        self.assertEqual(step(self.shelf, definition(0, NUMBER)), ("fun", NUMBER, var(0)))
        refusal(self, Unbound, {"place": (0,), "name": "a"}, self.shelf.tell, "one", ["b"], [], work(B, B), form)
        refusal(self, Unbound, {"place": (0,), "name": "c"}, self.shelf.tell,
                "one", ["a"], [], work(A, A), fun("x", told(BAD, pair(A, pair(C, B)))))
        refusal(self, Unbound, {"place": (), "name": "a"}, self.shelf.write, told(rowof(), row(A)))
        form = fun("x", told(rowof(told(rowof(), row(B))), row(row(B))))
        self.shelf.tell("deep", ["b"], [], work(B, row(row(B))), form)
        self.assertEqual(step(self.shelf, definition(1, NUMBER)), ("fun", NUMBER, row_core(row(NUMBER), none(NUMBER))))

    def test_a_name_of_another_definition_is_not_the_definition_s_around(self):
        self.shelf.tell("same", ["a"], [], work(A, A), fun("x", ref("x")))
        refusal(self, Unbound, {"place": (0, 0), "name": "a"}, self.shelf.tell,
                "one", ["b"], [], work(B, B), fun("x", call(told(ref("same"), work(A, A)), ref("x"))))

    def test_a_definition_may_use_those_told_ahead_and_no_others(self):
        self.shelf.tell("one", [], [], NUMBER, num(1))
        self.shelf.tell("two", [], [], NUMBER, plus(ref("one"), ref("one")))
        self.shelf.tell("four", [], [], NUMBER, plus(ref("two"), ref("two")))
        self.assertEqual(self.shelf.end(plus(ref("four"), ref("one")), 100), (num(5), NUMBER))
        refusal(self, Unbound, {"place": (1,), "name": "six"}, self.shelf.tell,
                "six", [], [], NUMBER, plus(ref("one"), ref("six")))
        refusal(self, Unbound, {"place": (0, 0), "name": "later"}, self.shelf.tell,
                "six", [], [], work(NUMBER, NUMBER), fun("x", plus(ref("later"), ref("x"))))

    def test_a_name_bound_in_a_definition_hides_others(self):
        self.shelf.tell("one", [], [], NUMBER, num(1))
        self.shelf.tell("two", [], [], work(TRUTH, TRUTH), fun("one", ref("one")))
        self.shelf.tell("three", [], [], work(TRUTH, TRUTH), fun("three", ref("three")))
        self.assertEqual(self.shelf.end(call(ref("three"), call(ref("two"), YES)), 100), (YES, TRUTH))

    def test_names_of_kinds_are_apart_from_other_names(self):
        self.shelf.tell("a", ["a"], [], work(A, A), fun("a", told(ref("a"), A)))
        self.shelf.tell("b", ["a"], ["a"], like_work(A), fun("x", fun("b", like(call(ref("a"), ref("b")), ref("x")))))
        self.assertEqual(self.shelf.end(call(ref("b"), num(1), num(1)), 100), (YES, TRUTH))

    def test_told_for_a_name_that_is_told(self):
        self.shelf.tell("one", [], [], NUMBER, num(1))
        for free, needs, kind, form in (
            ([], [], NUMBER, num(1)), ([], [], TRUTH, YES), (["a"], [], work(A, A), fun("x", ref("x"))),
            ([], [], row(A), BAD), (["a"], ["b"], B, BAD), (["a"], [], NUMBER, BAD), ([], [], NUMBER, BAD),
        ):
            refusal(self, Told, {}, self.shelf.tell, "one", free, needs, kind, form)
        self.assertEqual(self.shelf.end(ref("one"), 1), (num(1), NUMBER))

    def test_unbound_for_the_first_name_in_the_kind_that_is_not_free(self):
        for free, needs, kind, text in (
            ([], [], A, "a"), (["a"], [], pair(A, B), "b"), (["b"], [], pair(A, B), "a"), ([], [], pair(B, A), "b"),
            (["a"], [], work(row(A), pair(C, B)), "c"), (["a", "b"], [], work(row(A), pair(C, B)), "c"),
            # Ahead of a free name that isn't in the kind, a need that isn't free, and what the form is refused for.
            (["c"], ["d"], pair(A, B), "a"), ([], ["a"], A, "a"), ([], ["a", "b"], work(B, A), "b"),
        ):
            for form in (BAD, fun("x", ref("x")), told(num(1), C)):
                refusal(self, Unbound, {"place": (), "name": text}, self.shelf.tell, "one", free, needs, kind, form)

    def test_loose(self):
        for free, needs, kind in (
            (["a"], [], NUMBER), (["a", "b"], [], row(A)), (["b", "a"], [], row(A)), (["a", "b", "c"], [], pair(C, A)),
            ([], ["a"], NUMBER), (["a"], ["b"], row(A)), (["a"], ["a", "b"], row(A)), (["a"], ["b", "a"], row(A)),
            (["a", "b"], ["c"], A), (["number"], [], NUMBER),
        ):
            # Ahead of what the form is refused for.
            for form in (BAD, rowof(), ref("nowhere"), told(num(1), C)):
                refusal(self, Loose, {}, self.shelf.tell, "one", free, needs, kind, form)

    def test_what_the_form_is_refused_for(self):
        for form, error, values in (
            (BAD, Misused, {"place": (0,), "found": NUMBER}),
            (ref("nowhere"), Unbound, {"place": (), "name": "nowhere"}),
            (YES, Unmet, {"place": (), "wanted": NUMBER, "found": TRUTH}),
            (rowof(), Unfit, {"place": (), "wanted": NUMBER}),
            (left(both(num(1), rowof())), Unsaid, {"place": (0, 1)}),
            (told(num(1), A), Unbound, {"place": (), "name": "a"}),
            (cond(like(ADD, ADD), num(1), num(2)), NoRule, {"place": (0,), "kind": ADDS}),
        ):
            refusal(self, error, values, self.shelf.tell, "one", [], [], NUMBER, form)

    def test_what_is_refused_changes_nothing_and_the_name_may_be_told_behind_it(self):
        self.shelf.tell("one", [], [], NUMBER, num(1))
        for error, free, needs, kind, form in (
            (Unbound, [], [], A, num(2)), (Loose, ["a"], [], NUMBER, num(2)), (Loose, [], ["a"], NUMBER, num(2)),
            (Unmet, [], [], NUMBER, YES), (Unbound, [], [], NUMBER, ref("two")), (Misused, [], [], NUMBER, BAD),
        ):
            self.assertRaises(error, self.shelf.tell, "two", free, needs, kind, form)
            refusal(self, Unbound, {"place": (), "name": "two"}, self.shelf.write, ref("two"))
            self.assertEqual(self.told_number("one"), 0)
        self.assertRaises(Told, self.shelf.tell, "one", [], [], NUMBER, num(2))
        self.assertIsNone(self.shelf.tell("two", [], [], NUMBER, num(2)))
        self.assertEqual(self.told_number("two"), 1)
        self.assertRaises(Misused, self.shelf.tell, "three", [], [], NUMBER, BAD)
        self.shelf.tell("four", [], [], NUMBER, num(4))
        self.assertEqual(self.told_number("four"), 2)
        self.assertEqual(self.told_number("one"), 0)
        self.assertEqual(self.shelf.end(plus(ref("one"), plus(ref("two"), ref("four"))), 100), (num(7), NUMBER))

    def test_lists_may_be_changed_behind_the_call(self):
        for change in (lambda names: names.clear(), lambda names: names.reverse(), lambda names: names.append("z"),
                       lambda names: names.insert(0, "b"), lambda names: names.pop()):
            shelf = Shelf()
            shelf.tell("alike", ["a"], ["a"], like_work(A), fun("x", fun("y", like(ref("x"), ref("y")))))
            free, needs = ["b", "a"], ["a", "b"]
            form = fun("p", fun("q", like(ref("p"), ref("q"))))
            shelf.tell("pairs", free, needs, like_work(pair(A, B)), form)
            self.assertEqual((free, needs), (["b", "a"], ["a", "b"]))
            asked = call(ref("pairs"), ONE_BOTH, ONE_BOTH)
            ahead_of = (shelf.write(asked), shelf.end(asked, 100), step(shelf, definition(1, A, B)))
            change(free)
            change(needs)
            self.assertEqual((shelf.write(asked), shelf.end(asked, 100), step(shelf, definition(1, A, B))), ahead_of)
            core = call(definition(1, TRUTH, NUMBER), NUMBERS, TRUTHS, ONE_BOTH, ONE_BOTH)
            self.assertEqual(ahead_of[0], (core, TRUTH))
            self.assertEqual(core_kind(shelf, [], definition(1, TRUTH, NUMBER)),
                             work(like_work(NUMBER), work(like_work(TRUTH), like_work(ONE_KIND))))

    def test_each_shelf_knows_its_own_definitions_alone(self):
        other = Shelf()
        self.shelf.tell("one", [], [], NUMBER, num(1))
        other.tell("first", [], [], NUMBER, num(10))
        other.tell("one", [], [], TRUTH, YES)
        self.shelf.tell("two", [], [], NUMBER, plus(ref("one"), ref("one")))
        self.assertEqual(self.shelf.write(ref("one")), (definition(0), NUMBER))
        self.assertEqual(other.write(ref("one")), (definition(1), TRUTH))
        self.assertEqual(self.shelf.end(ref("two"), 100), (num(2), NUMBER))
        self.assertEqual(other.end(ref("one"), 100), (YES, TRUTH))
        refusal(self, Unbound, {"place": (), "name": "two"}, other.write, ref("two"))
        refusal(self, Unbound, {"place": (), "name": "first"}, self.shelf.write, ref("first"))
        refusal(self, Unbound, {"place": (), "name": "one"}, Shelf().write, ref("one"))

    def test_the_library_is_told_on_two_shelves_alike(self):
        first, second = library(Shelf()), library(Shelf())
        for form, core, kind in UP:
            self.assertEqual(first.write(form), second.write(form))

    def test_right_of_a_pair_of_works(self):
        self.shelf.tell("second", ["a", "b"], [], work(pair(A, B), B), fun("p", right(ref("p"))))
        form = call(ref("second"), both(YES, ADD), num(1), num(2))
        self.assertEqual(self.shelf.end(form, 100), (num(3), NUMBER))

    def test_many_names_of_kinds(self):
        names = [first + second for first in "abcdefgh" for second in "xyzvw"]
        kind = NUMBER
        form = num(7)
        for text in reversed(names):
            kind = work(name(text), kind)
            form = fun(text, form)
        free = sorted(names)
        self.shelf.tell("many", free, [], kind, form)
        parts = [num(1) if turn % 2 else YES for turn in range(40)]
        core, found = self.shelf.write(call(ref("many"), *parts))
        kinds = [TRUTH if parts[names.index(text)] == YES else NUMBER for text in free]
        self.assertEqual((core, found), (call(definition(0, *kinds), *parts), NUMBER))
        self.assertEqual(self.shelf.end(call(ref("many"), *parts), 41), (num(7), NUMBER))


if __name__ == "__main__":
    unittest.main()
