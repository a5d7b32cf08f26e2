"""Points [1], [5], [10], [11] and [12] and the interface of twomeet/steps.py: ends, steps, and runs of steps."""

import random
import unittest

from tests.helper import (
    NO, NUMBER, NUMBERS, TRUTH, TRUTHS, YES, A, B, ask, both, call, cond, definition, fold, left, less, library,
    like_work, likepair, likerow, more, none, num, pair, plus, refusal, right, row, row_core, var, work,
)
from twomeet.errors import Stray, TooLong
from twomeet.shelf import Shelf
from twomeet.steps import is_end, run, step

SAME = ("fun", NUMBER, var(0))
ADDER = ("fun", NUMBER, ("fun", NUMBER, plus(var(1), var(0))))
# One that steps, and what it steps to, ahead of whatever is around it.
MOVES = plus(num(1), num(2))
MOVED = num(3)
# One that isn't at its end, and sticks.
STICKS = plus(num(1), YES)

ENDS = [
    num(0), num(-5), num(10 ** 399), YES, NO, none(NUMBER), none(work(A, B)), SAME, ADDER, ("fun", NUMBER, STICKS),
    ("fun", TRUTH, definition(99)), ("fun", NUMBER, MOVES), NUMBERS, TRUTHS, likerow(NUMBERS),
    likepair(NUMBERS, TRUTHS), likerow(likepair(TRUTHS, likerow(NUMBERS))), likerow(SAME), likepair(SAME, num(1)),
    both(num(1), YES), both(SAME, both(none(A), NUMBERS)), more(num(1), none(NUMBER)),
    more(SAME, more(ADDER, none(NUMBER))),
    more(num(1), num(2)), row_core(TRUTH, YES, NO, YES), call(NUMBERS, num(1)), call(NUMBERS, YES), call(TRUTHS, SAME),
    call(likerow(NUMBERS), none(NUMBER)), call(likepair(NUMBERS, TRUTHS), both(num(1), NO)),
    call(likepair(SAME, SAME), YES), both(call(NUMBERS, num(1)), call(likerow(TRUTHS), num(1))),
    call(NUMBERS, call(NUMBERS, num(1))),
    likerow(call(NUMBERS, num(1))), call(likerow(call(NUMBERS, num(1))), likerow(TRUTHS)),
]

# What a core whose parts are at their end becomes.
RULES = [
    (call(SAME, num(7)), num(7)),
    (call(("fun", NUMBER, num(1)), num(7)), num(1)),
    (call(ADDER, num(7)), ("fun", NUMBER, plus(num(7), var(0)))),
    (call(("fun", NUMBER, both(var(0), plus(var(0), var(0)))), num(7)), both(num(7), plus(num(7), num(7)))),
    (call(("fun", A, STICKS), YES), STICKS),
    (call(("fun", NUMBER, call(("fun", NUMBER, var(0)), var(0))), num(7)), call(("fun", NUMBER, var(0)), num(7))),
    (call(("fun", NUMBER, call(("fun", NUMBER, var(1)), var(0))), num(7)), call(("fun", NUMBER, num(7)), num(7))),
    (call(("fun", NUMBER, ("fun", A, ("fun", B, both(var(2), both(var(1), var(0)))))), num(7)),
     ("fun", A, ("fun", B, both(num(7), both(var(1), var(0)))))),
    (call(("fun", work(NUMBER, NUMBER), ("fun", NUMBER, call(var(1), var(0)))), SAME),
     ("fun", NUMBER, call(SAME, var(0)))),
    (call(("fun", A, ("fun", B, var(1))), ADDER), ("fun", B, ADDER)),
    (call(("fun", NUMBER, fold(var(0), left(var(0)), likerow(var(0)))), YES), fold(YES, left(YES), likerow(YES))),
    (call(("fun", NUMBER, more(right(var(0)), likepair(var(0), less(var(0), cond(var(0), var(0), var(0)))))), NO),
     more(right(NO), likepair(NO, less(NO, cond(NO, NO, NO))))),
    (call(("fun", NUMBER, both(none(A), both(definition(0, A), ("like", NUMBER)))), NO),
     both(none(A), both(definition(0, A), ("like", NUMBER)))),
    (left(both(num(1), YES)), num(1)),
    (right(both(num(1), YES)), YES),
    (left(both(SAME, ADDER)), SAME),
    (cond(YES, num(1), num(2)), num(1)),
    (cond(NO, num(1), num(2)), num(2)),
    (cond(YES, MOVES, STICKS), MOVES),
    (cond(NO, MOVES, STICKS), STICKS),
    (fold(none(NUMBER), num(5), ADDER), num(5)),
    (fold(none(A), SAME, num(1)), SAME),
    (fold(row_core(NUMBER, num(1), num(2)), num(5), ADDER),
     call(ADDER, num(1), fold(row_core(NUMBER, num(2)), num(5), ADDER))),
    (fold(more(num(1), num(2)), num(5), YES), call(YES, num(1), fold(num(2), num(5), YES))),
    (plus(num(2), num(3)), num(5)),
    (plus(num(2), num(-3)), num(-1)),
    (plus(num(10 ** 399), num(10 ** 399 - 1)), num(2 * 10 ** 399 - 1)),
    (less(num(2), num(3)), YES),
    (less(num(3), num(3)), NO),
    (less(num(4), num(3)), NO),
    (less(num(-4), num(3)), YES),
    (less(num(10 ** 399), num(10 ** 399 + 1)), YES),
    (less(num(10 ** 399 + 1), num(10 ** 399)), NO),
    (call(NUMBERS, num(2), num(2)), YES),
    (call(NUMBERS, num(2), num(3)), NO),
    (call(NUMBERS, num(10 ** 399), num(10 ** 399)), YES),
    (call(NUMBERS, num(10 ** 399), num(10 ** 399 + 1)), NO),
    (call(TRUTHS, YES, YES), YES),
    (call(TRUTHS, NO, NO), YES),
    (call(TRUTHS, YES, NO), NO),
    (call(TRUTHS, NO, YES), NO),
    (call(likepair(NUMBERS, TRUTHS), both(num(1), YES), both(num(2), NO)),
     cond(call(NUMBERS, num(1), num(2)), call(TRUTHS, YES, NO), NO)),
    (call(likepair(SAME, ADDER), both(YES, num(1)), both(SAME, NO)),
     cond(call(SAME, YES, SAME), call(ADDER, num(1), NO), NO)),
    (call(likerow(NUMBERS), none(NUMBER), none(NUMBER)), YES),
    (call(likerow(NUMBERS), none(TRUTH), none(A)), YES),
    (call(likerow(NUMBERS), none(NUMBER), row_core(NUMBER, num(1))), NO),
    (call(likerow(NUMBERS), row_core(NUMBER, num(1)), none(NUMBER)), NO),
    (call(likerow(NUMBERS), row_core(NUMBER, num(1), num(2)), row_core(NUMBER, num(3))),
     cond(call(NUMBERS, num(1), num(3)), call(likerow(NUMBERS), row_core(NUMBER, num(2)), none(NUMBER)), NO)),
    (call(likerow(likepair(TRUTHS, NUMBERS)), more(YES, YES), more(NO, NO)),
     cond(call(likepair(TRUTHS, NUMBERS), YES, NO), call(likerow(likepair(TRUTHS, NUMBERS)), YES, NO), NO)),
    (definition(9), ("fun", TRUTH, cond(var(0), NO, YES))),
    (definition(0, NUMBER), SAME),
    (definition(0, row(B)), ("fun", row(B), var(0))),
    (definition(2, NUMBER, TRUTH), ("fun", pair(TRUTH, NUMBER), both(right(var(0)), left(var(0))))),
    (definition(4, pair(A, B)), none(pair(A, B))),
    (definition(6, B, A), ("fun", work(B, A), ("fun", row(B), fold(var(0), none(A), (
        "fun", B, ("fun", row(A), more(call(var(3), var(1)), var(0)))))))),
    (definition(10, TRUTH),
     ("fun", like_work(TRUTH), ("fun", TRUTH, ("fun", TRUTH, call(var(2), var(1), var(0)))))),
    (definition(12, row(B), NUMBER), ("fun", like_work(NUMBER), ("fun", like_work(row(B)), (
        "fun", pair(row(B), NUMBER), ("fun", pair(row(B), NUMBER), call(definition(9), call(
            definition(10, pair(row(B), NUMBER)), likepair(var(2), var(3)), var(1), var(0)))))))),
]

# Cores that stick, whose parts are at their end.
STUCK = [
    var(0), call(num(1), num(2)), call(YES, num(2)), call(none(NUMBER), num(2)), call(both(SAME, SAME), num(2)),
    call(more(SAME, SAME), num(2)), left(num(1)), left(SAME), left(more(num(1), num(2))), right(none(NUMBER)),
    right(call(NUMBERS, num(1))), right(NUMBERS), cond(num(1), YES, NO), cond(SAME, YES, NO), cond(none(A), YES, NO),
    cond(both(YES, YES), YES, NO), fold(num(1), num(2), ADDER), fold(both(num(1), none(NUMBER)), num(2), ADDER),
    fold(SAME, num(2), ADDER), plus(YES, num(1)), plus(num(1), SAME), plus(none(NUMBER), num(1)), less(num(1), NO),
    less(NUMBERS, num(1)), less(both(num(1), num(1)), num(1)), ("like", row(NUMBER)), ("like", A),
    ("like", pair(NUMBER, TRUTH)), ("like", work(NUMBER, NUMBER)), call(NUMBERS, num(1), YES),
    call(NUMBERS, YES, num(1)), call(NUMBERS, YES, YES),
    call(TRUTHS, num(1), num(1)), call(TRUTHS, YES, num(1)), call(TRUTHS, SAME, YES), call(NUMBERS, SAME, SAME),
    call(likepair(NUMBERS, NUMBERS), num(1), both(num(1), num(1))),
    call(likepair(NUMBERS, NUMBERS), both(num(1), num(1)), num(1)),
    call(likepair(NUMBERS, NUMBERS), none(NUMBER), none(NUMBER)),
    call(likepair(NUMBERS, NUMBERS), more(num(1), num(1)), more(num(1), num(1))),
    call(likerow(NUMBERS), num(1), none(NUMBER)), call(likerow(NUMBERS), none(NUMBER), num(1)),
    call(likerow(NUMBERS), row_core(NUMBER, num(1)), num(1)),
    call(likerow(NUMBERS), both(num(1), num(1)), both(num(1), num(1))),
    call(likerow(NUMBERS), SAME, row_core(NUMBER, num(1))), definition(14), definition(14, NUMBER), definition(-1),
    definition(-1, NUMBER), definition(0), definition(0, NUMBER, NUMBER), definition(9, NUMBER), definition(1, NUMBER),
]

# Ways for a core to be the first part of another that isn't at its end, so that it steps within it.
WITHIN = {
    "called": lambda core: call(core, MOVES),
    "part of a call": lambda core: call(SAME, core),
    "part of a likeness": lambda core: call(NUMBERS, core),
    "second part of a likeness": lambda core: call(NUMBERS, num(1), core),
    "both, first": lambda core: both(core, MOVES),
    "both, second": lambda core: both(num(1), core),
    "left": left,
    "right": right,
    "more, item": lambda core: more(core, MOVES),
    "more, row": lambda core: more(num(1), core),
    "fold, row": lambda core: fold(core, MOVES, MOVES),
    "fold, start": lambda core: fold(none(NUMBER), core, MOVES),
    "fold, work": lambda core: fold(none(NUMBER), num(1), core),
    "if": lambda core: cond(core, MOVES, MOVES),
    "sum, first": lambda core: plus(core, MOVES),
    "sum, second": lambda core: plus(num(1), core),
    "less, first": lambda core: less(core, MOVES),
    "less, second": lambda core: less(num(1), core),
    "likepair, first": lambda core: likepair(core, MOVES),
    "likepair, second": lambda core: likepair(NUMBERS, core),
    "likerow": likerow,
    "likeness that is called": lambda core: call(likerow(core), MOVES),
}

# Cores that step to their end, and how many steps they take.
RUNS = [
    (num(1), 0), (ADDER, 0), (MOVES, 1), (plus(MOVES, MOVES), 3), (call(ADDER, num(1), num(2)), 3),
    (fold(none(NUMBER), num(0), ADDER), 1), (fold(row_core(NUMBER, num(1)), num(0), ADDER), 5),
    (fold(row_core(NUMBER, num(1), num(2), num(3)), num(0), ADDER), 13), (cond(less(num(1), num(2)), MOVES, STICKS), 3),
    (call(likerow(NUMBERS), row_core(NUMBER, num(1)), row_core(NUMBER, num(1))), 4),
    (call(likepair(NUMBERS, TRUTHS), both(num(1), YES), both(num(2), NO)), 3), (call(definition(0, NUMBER), num(1)), 2),
    (call(NUMBERS, MOVES), 1), (both(left(both(num(1), YES)), right(both(num(1), YES))), 2),
]


class StepsTest(unittest.TestCase):
    def setUp(self):
        self.shelf = library(Shelf())

    def step(self, core):
        return step(self.shelf, core)

    def run_most(self, core, most):
        return run(self.shelf, core, most)


class EndTest(StepsTest):
    def test_ends(self):
        for core in ENDS:
            with self.subTest(core=core):
                self.assertIs(ask(self, is_end, core), True)
                self.assertIsNone(ask(self, self.step, core))
                for most in (0, 1, 100):
                    self.assertEqual(ask(self, self.run_most, core, most), core)

    def test_others_are_not_at_their_end(self):
        for core in [core for core, behind in RULES] + STUCK:
            with self.subTest(core=core):
                self.assertIs(ask(self, is_end, core), False)
                for way in WITHIN:
                    self.assertIs(is_end(WITHIN[way](core)), False, way)

    def test_a_likeness_that_is_called_with_one_end_and_no_other_call(self):
        for likeness in (NUMBERS, TRUTHS, likerow(NUMBERS), likepair(TRUTHS, NUMBERS)):
            for end in ENDS:
                self.assertTrue(is_end(call(likeness, end)))
                self.assertFalse(is_end(call(likeness, end, end)))
                self.assertFalse(is_end(call(SAME, end)))
                self.assertFalse(is_end(call(num(1), end)))
            self.assertFalse(is_end(call(likeness, MOVES)))
        self.assertFalse(is_end(call(likerow(MOVES), num(1))))
        self.assertFalse(is_end(call(("like", row(NUMBER)), num(1))))


class StepTest(StepsTest):
    def test_rules(self):
        for core, behind in RULES:
            with self.subTest(core=core):
                self.assertEqual(ask(self, self.step, core), behind)

    def test_rules_within_others(self):
        for way in WITHIN:
            for core, behind in RULES + [(MOVES, MOVED)]:
                with self.subTest(way=way, core=core):
                    self.assertEqual(self.step(WITHIN[way](core)), WITHIN[way](behind))

    def test_rules_within_others_within_others(self):
        for outer in WITHIN:
            for inner in WITHIN:
                with self.subTest(outer=outer, inner=inner):
                    core = ask(self, self.step, WITHIN[outer](WITHIN[inner](MOVES)))
                    self.assertEqual(core, WITHIN[outer](WITHIN[inner](MOVED)))

    def test_what_sticks(self):
        for core in STUCK:
            with self.subTest(core=core):
                refusal(self, Stray, {}, self.step, core)
                refusal(self, Stray, {}, self.run_most, core, 1)
                refusal(self, Stray, {}, self.run_most, core, 1000)

    def test_what_sticks_within_others(self):
        for way in WITHIN:
            for core in STUCK:
                with self.subTest(way=way, core=core):
                    with self.assertRaises(Stray):
                        self.step(WITHIN[way](core))
                    with self.assertRaises(Stray):
                        self.run_most(WITHIN[way](core), 1)

    def test_what_sticks_behind_a_part_that_steps_does_not_yet(self):
        for core, behind in (
            (both(MOVES, STICKS), both(MOVED, STICKS)), (call(MOVES, STICKS), call(MOVED, STICKS)),
            (plus(MOVES, STICKS), plus(MOVED, STICKS)), (fold(MOVES, STICKS, STICKS), fold(MOVED, STICKS, STICKS)),
            (fold(num(1), MOVES, STICKS), fold(num(1), MOVED, STICKS)), (plus(YES, MOVES), plus(YES, MOVED)),
            (call(num(1), MOVES), call(num(1), MOVED)), (likepair(MOVES, STICKS), likepair(MOVED, STICKS)),
            (more(MOVES, STICKS), more(MOVED, STICKS)), (cond(MOVES, STICKS, STICKS), cond(MOVED, STICKS, STICKS)),
        ):
            with self.subTest(core=core):
                self.assertEqual(ask(self, self.step, core), behind)
                with self.assertRaises(Stray):
                    self.run_most(core, 2)

    def test_what_sticks_is_not_passed_over(self):
        for core in (both(STICKS, MOVES), plus(STICKS, MOVES), call(STICKS, MOVES), fold(STICKS, MOVES, MOVES),
                     fold(num(1), STICKS, MOVES), likepair(STICKS, MOVES), more(STICKS, MOVES)):
            refusal(self, Stray, {}, self.step, core)

    def test_a_definition_that_another_shelf_has(self):
        other = Shelf()
        other.tell("one", [], [], NUMBER, num(1))
        self.assertEqual(step(other, definition(0)), num(1))
        for core in (definition(1), definition(0, NUMBER), definition(9)):
            refusal(self, Stray, {}, lambda core: step(other, core), core)

    def test_nothing_is_left_of_what_was_put_in_but_the_core(self):
        # Several funs that are called while others wait, with ends that hold ends that were put in.
        core = call(("fun", NUMBER, call(("fun", pair(NUMBER, NUMBER), ("fun", A, both(var(1), left(var(1))))),
                                         both(var(0), plus(var(0), num(1))))), num(7))
        wanted = ("fun", A, both(both(num(7), num(8)), left(both(num(7), num(8)))))
        self.assertEqual(self.run_most(core, 3), wanted)
        self.assertEqual(self.run_most(both(core, core), 6), both(wanted, wanted))
        self.assertEqual(self.run_most(call(SAME, call(SAME, SAME)), 2), SAME)
        self.assertEqual(self.run_most(call(SAME, call(SAME, likerow(call(SAME, NUMBERS)))), 3), likerow(NUMBERS))
        core = call(call(SAME, likerow(call(SAME, NUMBERS))), call(SAME, none(NUMBER)))
        self.assertEqual(self.run_most(core, 3), call(likerow(NUMBERS), none(NUMBER)))
        self.assertEqual(self.run_most(call(SAME, core), 4), call(likerow(NUMBERS), none(NUMBER)))
        self.assertEqual(self.run_most(call(call(SAME, core), call(SAME, none(NUMBER))), 6), YES)


class RunTest(StepsTest):
    def test_as_many_steps_as_are_needed_one_less_and_more(self):
        for core, many in RUNS:
            trail = [core]
            while step(self.shelf, trail[-1]) is not None:
                trail.append(step(self.shelf, trail[-1]))
            with self.subTest(core=core):
                self.assertEqual(len(trail) - 1, many)
                for most in (many, many + 1, many + 1000):
                    self.assertEqual(ask(self, self.run_most, core, most), trail[-1])
                for most in range(many):
                    refusal(self, TooLong, {}, self.run_most, core, most)
                for place, part in enumerate(trail):
                    self.assertEqual(self.run_most(part, many - place), trail[-1])

    def test_too_long_ahead_of_a_core_that_would_stick(self):
        for core in STUCK + [WITHIN[way](STICKS) for way in WITHIN]:
            with self.subTest(core=core):
                refusal(self, TooLong, {}, self.run_most, core, 0)
        for most in (0, 1, 2):
            refusal(self, TooLong, {}, self.run_most, both(MOVES, both(MOVES, STICKS)), most)
        for most in (3, 4, 1000):
            refusal(self, Stray, {}, self.run_most, both(MOVES, both(MOVES, STICKS)), most)

    def test_a_part_that_is_not_taken_may_stick(self):
        self.assertEqual(self.run_most(cond(YES, num(1), STICKS), 1), num(1))
        self.assertEqual(self.run_most(cond(NO, STICKS, MOVES), 2), num(3))
        self.assertEqual(self.run_most(call(likepair(NUMBERS, TRUTHS), both(num(1), YES), both(num(2), num(1))), 3), NO)
        refusal(self, Stray, {}, self.run_most,
                call(likepair(NUMBERS, TRUTHS), both(num(1), YES), both(num(1), num(1))), 1000)

    def test_cores_far_deeper_than_forms(self):
        core = num(0)
        for _ in range(3000):
            core = plus(num(1), core)
        self.assertFalse(is_end(core))
        self.assertEqual(self.run_most(core, 3000), num(3000))
        with self.assertRaises(TooLong):
            self.run_most(core, 2999)
        behind = step(self.shelf, core)
        for _ in range(2999):
            self.assertEqual(behind[:2], ("sum", num(1)))
            behind = behind[2]
        self.assertEqual(behind, num(1))
        items = none(NUMBER)
        for turn in range(3000):
            items = more(num(turn), items)
        self.assertTrue(is_end(items))
        self.assertIsNone(step(self.shelf, items))
        self.assertFalse(is_end(more(MOVES, items)))

    def test_a_long_way_round_is_not_walked_ahead_of_its_steps(self):
        # A work that calls another one twice, and that another one twice, forty times: it takes 2 ** 40 steps.
        twice = ("fun", NUMBER, ("fun", work(NUMBER, NUMBER), ("fun", NUMBER, call(var(1), call(var(1), var(0))))))
        core = call(fold(row_core(NUMBER, *[num(1)] * 40), ("fun", NUMBER, plus(var(0), num(1))), twice), num(0))
        refusal(self, TooLong, {}, self.run_most, core, 2000)
        few = call(fold(row_core(NUMBER, *[num(1)] * 8), ("fun", NUMBER, plus(var(0), num(1))), twice), num(0))
        self.assertEqual(self.run_most(few, 10000), num(256))

    def test_random_cores_against_the_rules_told_once_more(self):
        chance = random.Random(11)
        seen = {"end": 0, "step": 0, "stray": 0}
        for _ in range(8000):
            core = random_core(chance, chance.randrange(6))
            with self.subTest(core=core):
                self.assertIs(is_end(core), model_end(core))
                try:
                    wanted = model_step(core)
                except Stray:
                    seen["stray"] += 1
                    refusal(self, Stray, {}, self.step, core)
                else:
                    seen["end" if wanted is None else "step"] += 1
                    self.assertEqual(self.step(core), wanted)
                self.runs_as_it_steps(core)
        self.assertGreater(min(seen.values()), 400)

    def runs_as_it_steps(self, core):
        last = core
        for many in range(12):
            try:
                behind = model_step(last)
            except Stray:
                self.assertRaises(TooLong, self.run_most, core, many)
                self.assertRaises(Stray, self.run_most, core, many + 1)
                return
            if behind is None:
                self.assertEqual(self.run_most(core, many), last)
                if many > 0:
                    self.assertRaises(TooLong, self.run_most, core, many - 1)
                return
            last = behind
        self.assertRaises(TooLong, self.run_most, core, 11)


def random_core(chance, depth):
    if depth == 0:
        return chance.choice((
            num(1), num(2), YES, NO, none(NUMBER), NUMBERS, TRUTHS, ("like", A), SAME, ADDER, ("fun", NUMBER, NUMBERS),
            definition(9), definition(0, NUMBER), definition(0), row_core(NUMBER, num(1), num(2)), both(num(1), NO),
        ))
    word = chance.choice(("call", "call", "call", "both", "left", "right", "more", "fold", "if", "sum", "less",
                          "likepair", "likerow"))
    many = {"left": 1, "right": 1, "likerow": 1, "fold": 3, "if": 3}.get(word, 2)
    return (word,) + tuple(random_core(chance, chance.randrange(depth)) for _ in range(many))


def model_end(core):
    word = core[0]
    if word == "call":
        return core[1][0] in ("like", "likepair", "likerow") and model_end(core[1]) and model_end(core[2])
    if word in ("both", "more", "likepair", "likerow"):
        return all(model_end(part) for part in core[1:])
    return word in ("number", "yes", "no", "none", "fun") or core in (NUMBERS, TRUTHS)


def model_step(core):
    """One step, part by part, of cores whose definitions are 9 and 0 at a kind, and whose funs are those above."""
    if model_end(core):
        return None
    word = core[0]
    for place in range(1, {"def": 0, "like": 0, "if": 1}.get(word, len(core) - 1) + 1):
        if not model_end(core[place]):
            return core[:place] + (model_step(core[place]),) + core[place + 1:]
    behind = {
        "call": model_call, "left": lambda a: a[1] if a[0] == "both" else None,
        "right": lambda a: a[2] if a[0] == "both" else None,
        "if": lambda a, b, c: {"yes": b, "no": c}.get(a[0]),
        "fold": lambda a, b, c: {"none": b, "more": call(c, a[1], fold(a[-1], b, c))}[a[0]]
        if a[0] in ("none", "more") else None,
        "sum": lambda a, b: num(a[1] + b[1]) if a[0] == b[0] == "number" else None,
        "less": lambda a, b: (YES if a[1] < b[1] else NO) if a[0] == b[0] == "number" else None,
        "def": lambda number, kinds: {
            (9, ()): ("fun", TRUTH, cond(var(0), NO, YES)), (0, (NUMBER,)): SAME,
        }.get((number, kinds)),
        "like": lambda kind: None,
    }[word](*core[1:])
    if behind is None:
        raise Stray()
    return behind


def model_call(called, part):
    if called[0] == "fun":
        return model_put(called[2], part, 0)
    if called[0] != "call":
        return None
    likeness, other = called[1], called[2]
    words = (other[0], part[0])
    if likeness == NUMBERS:
        return (YES if other == part else NO) if words == ("number", "number") else None
    if likeness == TRUTHS:
        return (YES if other == part else NO) if set(words) <= {"yes", "no"} else None
    if likeness[0] == "likepair":
        return cond(call(likeness[1], other[1], part[1]), call(likeness[2], other[2], part[2]), NO) \
            if words == ("both", "both") else None
    if words == ("more", "more"):
        return cond(call(likeness[1], other[1], part[1]), call(likeness, other[2], part[2]), NO)
    return {("none", "none"): YES, ("none", "more"): NO, ("more", "none"): NO}.get(words)


def model_put(core, end, rounds):
    """The end in the place of the var that is bound so many rounds out."""
    if core[0] == "var":
        return end if core[1] == rounds else core
    if core[0] == "fun":
        return ("fun", core[1], model_put(core[2], end, rounds + 1))
    if core[0] in ("number", "yes", "no", "none", "like", "def"):
        return core
    return (core[0],) + tuple(model_put(part, end, rounds) for part in core[1:])


if __name__ == "__main__":
    unittest.main()
