"""Points [1], [5], [7], [10], [11] and [12] over the whole program.

A form that is let by is of the kind that was found or told, and so are its core and each core behind each step; no
step sticks; and the end is what the form means, reckoned here from the form alone.
"""

import random
import unittest

from tests.helper import (
    LIBRARY, NO, NUMBER, TRUTH, YES, A, B, ahead, ask, both, call, cond, deep, fold, fun, has_works, left, less, let,
    library, like, meaning, name, num, pair, plus, ref, refusal, right, row, rowof, told, value_of, work,
)
from twomeet.core import core_kind
from twomeet.errors import Refused, TooLong, Unmet
from twomeet.kinds import filled, met, names_in
from twomeet.likes import unlikely
from twomeet.shelf import Shelf
from twomeet.steps import is_end, run, step

FORMS = dict([(one[0], one[4]) for one in LIBRARY])
# Names that are bound; some of them are definitions', too.
NAMES = ["x", "y", "z", "xs", "same", "nay", "empty"]
MOST = 3000


class Maker:
    """Makes random forms that have to be let by: those that come up with a kind, and those that go down with it."""

    def __init__(self, seed, free=(), needs=()):
        self.chance = random.Random(seed)
        self.free = list(free)
        self.needs = list(needs)
        self.definitions = list(LIBRARY)

    def kind(self, depth, likely=False):
        words = ["number", "truth"] + [("any", text) for text in (self.needs if likely else self.free)]
        if depth > 0:
            words += ["row", "pair"] + ([] if likely else ["work"])
        word = self.chance.choice(words)
        if isinstance(word, tuple):
            return word
        many = {"row": 1, "pair": 2, "work": 2}.get(word, 0)
        return (word,) + tuple(self.kind(depth - 1, likely) for _ in range(many))

    def bind(self, bound, kind):
        text = self.chance.choice(NAMES)
        return text, dict(bound, **{text: kind})

    def small(self, kind, bound):
        """A form that goes down with the kind, as small as they come."""
        texts = [text for text in bound if bound[text] == kind]
        if texts and (kind[0] == "any" or self.chance.randrange(2)):
            return ref(self.chance.choice(texts))
        if kind[0] == "pair":
            parts = [self.small(part, bound) for part in kind[1:]]
            return None if None in parts else both(*parts)
        if kind[0] == "work":
            text, inside = self.bind(bound, kind[1])
            form = self.small(kind[2], inside)
            return None if form is None else fun(text, form)
        number, truth = num(self.chance.randrange(-3, 4)), self.chance.choice((YES, NO))
        return {"number": number, "truth": truth, "row": rowof()}.get(kind[0])

    def down(self, kind, depth, bound):
        """A form that goes down with the kind, or None where none was come by."""
        if depth <= 0:
            return self.small(kind, bound)
        ways = [
            lambda: self.up(kind, depth, bound), lambda: self.choice(kind, depth, bound, self.down),
            lambda: self.naming(kind, depth, bound, self.down), lambda: self.defined(kind, depth, bound, True),
        ]
        if kind[0] == "work":
            ways += [lambda: self.work(kind, depth, bound)] * 6
        if kind[0] == "pair":
            ways += [lambda: self.parts(both, [kind[1], kind[2]], depth, bound)] * 2
        if kind[0] == "row":
            ways += [lambda: rowof(), lambda: self.parts(rowof, [kind[1]] * self.chance.randrange(4), depth, bound),
                     lambda: self.parts(ahead, [kind[1], kind], depth, bound)]
        return self.one_of(ways)

    def up(self, kind, depth, bound):
        """A form that comes up with the kind, or None where none was come by."""
        if depth <= 0:
            return self.told(kind, 0, bound)
        return self.one_of([lambda: self.bound(kind, depth, bound)] * 3 + self.ways_up(kind, depth, bound))

    def ways_up(self, kind, depth, bound):
        ways = [
            lambda: self.told(kind, depth, bound), lambda: self.side(kind, depth, bound),
            lambda: self.fold(kind, depth, bound), lambda: self.choice(kind, depth, bound, self.up),
            lambda: self.naming(kind, depth, bound, self.up), lambda: self.applied(kind, depth, bound),
        ] + [lambda: self.defined(kind, depth, bound, False)] * 6
        if kind == NUMBER:
            ways += [lambda: self.parts(plus, [NUMBER, NUMBER], depth, bound)] * 3
        if kind == TRUTH:
            ways += [lambda: self.parts(less, [NUMBER, NUMBER], depth, bound), lambda: self.like(depth, bound)] * 3
        if kind[0] == "pair":
            ways += [lambda: self.first_up(both, [kind[1], kind[2]], depth, bound, [self.up])]
        if kind[0] == "row":
            ways += [lambda: self.first_up(rowof, [kind[1]] * self.chance.randrange(1, 4), depth, bound, []),
                     lambda: self.first_up(ahead, [kind[1], kind], depth, bound, [])]
        return ways

    def one_of(self, ways):
        for way in self.chance.sample(ways, min(len(ways), 4)):
            form = way()
            if form is not None:
                return form
        return None

    def parts(self, make, kinds, depth, bound):
        made = [self.down(kind, depth - 1, bound) for kind in kinds]
        return None if None in made else make(*made)

    def first_up(self, make, kinds, depth, bound, others):
        made = [self.up(kinds[0], depth - 1, bound)]
        made += [(others[0] if others else self.down)(kind, depth - 1, bound) for kind in kinds[1:]]
        return None if None in made else make(*made)

    def told(self, kind, depth, bound):
        form = self.down(kind, depth - 1, bound)
        if form is None or form[0] in ("number", "yes", "no") or form[0] == "name" and form[1] in bound:
            return form
        return told(form, kind)

    def work(self, kind, depth, bound):
        text, inside = self.bind(bound, kind[1])
        form = self.down(kind[2], depth - 1, inside)
        return None if form is None else fun(text, form)

    def side(self, kind, depth, bound):
        other = self.kind(1)
        make, whole = self.chance.choice([(left, pair(kind, other)), (right, pair(other, kind))])
        form = self.up(whole, depth - 1, bound)
        return None if form is None else make(form)

    def fold(self, kind, depth, bound):
        item = self.kind(1)
        made = [self.up(row(item), depth - 1, bound), self.up(kind, depth - 1, bound),
                self.down(work(item, work(kind, kind)), depth - 1, bound)]
        return None if None in made else fold(*made)

    def choice(self, kind, depth, bound, first):
        made = [self.down(TRUTH, depth - 1, bound), first(kind, depth - 1, bound), self.down(kind, depth - 1, bound)]
        return None if None in made else cond(*made)

    def naming(self, kind, depth, bound, second):
        first_kind = self.kind(2)
        first = self.up(first_kind, depth - 1, bound)
        text, inside = self.bind(bound, first_kind)
        form = second(kind, depth - 1, inside)
        return None if first is None or form is None else let(text, first, form)

    def like(self, depth, bound):
        return self.first_up(like, [self.kind(2, True)] * 2, depth, bound, [])

    def applied(self, kind, depth, bound):
        wanted = self.kind(1)
        head = self.up(work(wanted, kind), depth - 1, bound)
        part = self.down(wanted, depth - 1, bound)
        return None if head is None or part is None else call(head, part)

    def bound(self, kind, depth, bound):
        """A name that is bound around, called as often as its kind has to be for the kind that is asked for."""
        texts = list(bound)
        self.chance.shuffle(texts)
        for text in texts:
            form, found = ref(text), bound[text]
            while found != kind and found[0] == "work" and depth > 0:
                part = self.down(found[1], depth - 1, bound)
                if part is None:
                    break
                form, found = call(form, part), found[2]
            if found == kind:
                return form
        return None

    def defined(self, kind, depth, bound, is_told):
        """A definition's name, called some times, where gaps are found by the parts, or by what is told."""
        text, free, needs, whole, _ = self.chance.choice(self.definitions)
        if text in bound:
            return None
        gaps = dict([(one, ("gap", turn)) for turn, one in enumerate(free)])
        left_over, wanted = filled(whole, gaps), []
        for _ in range(self.chance.randrange(4)):
            if left_over[0] == "work":
                wanted.append(left_over[1])
                left_over = left_over[2]
        found = met(left_over, kind, {})
        if found is None:
            return None
        for turn, one in enumerate(free):
            found.setdefault(turn, self.kind(1, one in needs))
        if any(unlikely(found[free.index(one)], self.needs) for one in needs):
            return None
        return self.defined_parts(ref(text), left_over, wanted, found, depth, bound, is_told)

    def defined_parts(self, form, left_over, wanted, found, depth, bound, is_told):
        known = {}
        for part in wanted:
            kind = filled(gaps_as_names(part), names_for(found))
            has_gap = any(one not in known for one in gaps_in(part))
            made = (self.up if has_gap else self.down)(kind, depth - 1, bound)
            if made is None:
                return None
            form = call(form, made)
            known.update([(one, True) for one in gaps_in(part)])
        return form if is_told or all(one in known for one in gaps_in(left_over)) else None


def gaps_in(kind):
    if kind[0] == "gap":
        return [kind[1]]
    return [one for part in kind[1:] if isinstance(part, tuple) for one in gaps_in(part)]


def gaps_as_names(kind):
    if kind[0] == "gap":
        return name("gap" + chr(97 + kind[1]))
    return (kind[0],) + tuple(gaps_as_names(part) if isinstance(part, tuple) else part for part in kind[1:])


def names_for(found):
    return dict([("gap" + chr(97 + turn), found[turn]) for turn in found])


class WholeTest(unittest.TestCase):
    def setUp(self):
        self.shelf = library(Shelf())
        self.forms = dict(FORMS)

    def trail(self, core, kind):
        """The cores behind each step, until the end, or until they are many; each of the kind."""
        trail = [core]
        while len(trail) <= MOST:
            self.assertEqual(core_kind(self.shelf, [], trail[-1]), kind)
            behind = step(self.shelf, trail[-1])
            self.assertIs(is_end(trail[-1]), behind is None)
            if behind is None:
                break
            trail.append(behind)
        return trail

    def goes(self, form, core, kind):
        """Steps the core to its end, and gives back how many steps that takes."""
        trail = self.trail(core, kind)
        many = len(trail) - 1
        if many < MOST:
            self.assertEqual(run(self.shelf, core, many), trail[-1])
            self.assertEqual(run(self.shelf, core, many + 7), trail[-1])
            if many > 0:
                self.assertRaises(TooLong, run, self.shelf, core, many - 1)
            if not has_works(kind):
                self.assertEqual(value_of(trail[-1]), meaning(form, {}, self.forms))
        return many

    def comes_up(self, form, kind):
        with self.subTest(form=form):
            core, found = ask(self, self.shelf.write, form)
            self.assertEqual(found, kind)
            self.assertEqual(self.shelf.write_as(form, kind), core)
            many = self.goes(form, core, kind)
            if many < MOST:
                self.assertEqual(ask(self, self.shelf.end, form, many), (run(self.shelf, core, many), kind))
                if many > 0:
                    refusal(self, TooLong, {}, self.shelf.end, form, many - 1)
            return many
        return 0


class RandomTest(WholeTest):
    def test_forms_that_come_up(self):
        maker = Maker(1)
        count = 0
        for turn in range(700):
            kind = maker.kind(2)
            form = maker.up(kind, turn % 7, {})
            if form is not None:
                count += self.comes_up(form, kind) > 0
        self.assertGreater(count, 300)

    def test_forms_that_go_down(self):
        maker = Maker(2)
        count = 0
        for turn in range(700):
            kind = maker.kind(2)
            form = maker.down(kind, turn % 7, {})
            if form is not None:
                with self.subTest(form=form, kind=kind):
                    core = ask(self, self.shelf.write_as, form, kind)
                    count += self.goes(form, core, kind) > 0
                    self.assertEqual(self.shelf.write(told(form, kind)), (core, kind))
        self.assertGreater(count, 300)

    def test_definitions_that_use_others(self):
        maker = Maker(3, ["a", "b"], ["b"])
        told_here = 0
        for turn in range(600):
            kind = work(A, work(B, maker.kind(2)))
            free = [text for text in ("b", "a") if text in names_in(kind)]
            form = maker.down(kind, 1 + turn % 4, {})
            if form is None:
                continue
            text = "".join(chr(97 + int(figure)) for figure in str(turn)) + "def"
            with self.subTest(form=form, kind=kind):
                self.assertIsNone(self.shelf.tell(text, free, ["b"], kind, form))
            self.forms[text] = form
            told_here += 1
            self.uses(maker, text, kind)
            maker.definitions.append((text, free, ["b"], kind, form))
        self.assertGreater(told_here, 300)

    def uses(self, maker, text, kind):
        """Calls a definition of a work from a to a work from b."""
        of_both = (both(num(1), rowof(NO)), pair(NUMBER, row(TRUTH)))
        first = maker.chance.choice([(num(2), NUMBER), (YES, TRUTH), of_both])
        second = maker.chance.choice([(num(2), NUMBER), (YES, TRUTH), (rowof(num(1), num(1)), row(NUMBER))])
        form = call(ref(text), first[0], second[0])
        self.comes_up(form, filled(kind[2][2], {"a": first[1], "b": second[1]}))

    def test_spoilt_forms_are_refused_or_hold_what_is_promised(self):
        maker = Maker(4)
        seen = {"refused": 0, "let by": 0}
        for turn in range(2500):
            form = maker.up(maker.kind(2), 1 + turn % 4, {})
            others = [maker.down(maker.kind(2), 1, {}), ref("x"), ref("joined"), num(1), YES, rowof()]
            other = maker.chance.choice(others)
            if form is None or other is None:
                continue
            place = maker.chance.choice(places_of(form))
            spoilt = put_at(form, place, other)
            with self.subTest(form=spoilt):
                try:
                    core, kind = self.shelf.write(spoilt)
                except Refused as error:
                    seen["refused"] += 1
                    self.assertIn(error.place, places_of(spoilt))
                    refusal(self, type(error), vars(error), self.shelf.write, spoilt)
                else:
                    seen["let by"] += 1
                    self.goes(spoilt, core, kind)
        self.assertGreater(min(seen.values()), 200)


def within(form):
    """The forms straight within a form."""
    if form[0] in ("number", "yes", "no", "name"):
        return []
    if form[0] == "rowof":
        return list(form[1])
    return {"fun": [form[-1]], "told": [form[1]], "let": list(form[2:])}.get(form[0], list(form[1:]))


def places_of(form):
    places = [()]
    for turn, part in enumerate(within(form)):
        places += [(turn,) + place for place in places_of(part)]
    return places


def put_at(form, place, other):
    if place == ():
        return other
    parts = within(form)
    parts[place[0]] = put_at(parts[place[0]], place[1:], other)
    if form[0] == "rowof":
        return rowof(*parts)
    if form[0] == "told":
        return told(parts[0], form[2])
    ahead_of = form[:2] if form[0] in ("fun", "let") else form[:1]
    return ahead_of + tuple(parts)


class EndTest(WholeTest):
    def ends(self, form, core, kind):
        with self.subTest(form=form):
            self.assertEqual(ask(self, self.shelf.end, form, 10 ** 6), (core, kind))
            self.comes_up(form, kind)

    def numbers(self, *values):
        return rowof(*[num(value) for value in values])

    def test_ends_told_here(self):
        row_of = self.numbers(3, 1, 2)
        double = told(fun("n", plus(ref("n"), ref("n"))), work(NUMBER, NUMBER))
        self.ends(num(1), num(1), NUMBER)
        self.ends(call(ref("long"), row_of), num(3), NUMBER)
        self.ends(call(ref("each"), double, row_of), self.shelf.write(self.numbers(6, 2, 4))[0], row(NUMBER))
        self.ends(call(ref("joined"), row_of, row_of), self.shelf.write(self.numbers(3, 1, 2, 3, 1, 2))[0], row(NUMBER))
        self.ends(call(ref("within"), num(2), row_of), YES, TRUTH)
        self.ends(call(ref("within"), num(4), row_of), NO, TRUTH)
        self.ends(call(ref("place"), rowof(both(YES, num(1)), both(NO, num(2))), NO, num(3)), num(2), NUMBER)
        self.ends(call(ref("place"), rowof(both(YES, num(1))), NO, num(3)), num(3), NUMBER)
        self.ends(call(ref("behind"), double, double, num(3)), num(12), NUMBER)
        self.ends(fold(row_of, num(0), fun("x", fun("s", plus(ref("x"), plus(ref("s"), ref("s")))))), num(13), NUMBER)

    def test_a_fold_calls_its_work_with_the_first_item_and_the_fold_of_the_others(self):
        # Not even: the work tells its parts, and the order of the items, apart.
        form = fold(self.numbers(1, 2, 3), told(rowof(), row(NUMBER)), fun("x", fun("xs", ahead(ref("x"), ref("xs")))))
        self.ends(form, self.shelf.write(self.numbers(1, 2, 3))[0], row(NUMBER))
        form = fold(self.numbers(1, 2, 3), told(rowof(), row(NUMBER)),
                    fun("x", fun("xs", call(ref("joined"), ref("xs"), rowof(ref("x"))))))
        self.ends(form, self.shelf.write(self.numbers(3, 2, 1))[0], row(NUMBER))

    def test_an_end_that_is_a_work(self):
        self.ends(told(call(ref("always"), num(1)), work(TRUTH, NUMBER)), ("fun", TRUTH, num(1)), work(TRUTH, NUMBER))
        self.ends(call(ref("alike"), num(1)),
                  ("fun", NUMBER, call(("like", NUMBER), num(1), ("var", 0))), work(NUMBER, TRUTH))
        self.ends(let("t", YES, told(fun("x", both(ref("t"), ref("x"))), work(NUMBER, pair(TRUTH, NUMBER)))),
                  ("fun", NUMBER, both(YES, ("var", 0))), work(NUMBER, pair(TRUTH, NUMBER)))

    def test_a_form_that_is_refused_is_refused_by_end(self):
        refusal(self, Unmet, {"place": (1,), "wanted": NUMBER, "found": TRUTH}, self.shelf.end, plus(num(1), YES), 0)

    def test_steps_are_counted(self):
        for form, many in (
            (num(1), 0), (plus(num(1), num(2)), 1), (let("x", num(1), ref("x")), 1), (ref("nay"), 1),
            (call(ref("nay"), YES), 3), (call(ref("alike"), num(1), num(1)), 5),
            (cond(YES, plus(num(1), num(2)), num(1)), 2), (like(rowof(num(1)), rowof(num(1))), 4),
            (call(ref("long"), rowof(YES, YES)), 11),
        ):
            with self.subTest(form=form):
                self.assertEqual(self.comes_up(form, self.shelf.write(form)[1]), many)
                self.shelf.end(form, many)
                if many > 0:
                    refusal(self, TooLong, {}, self.shelf.end, form, many - 1)
                    refusal(self, TooLong, {}, self.shelf.end, form, 0)

    def test_numbers_that_grow_on_the_way(self):
        # 1300 doublings make a number of 392 figures; two rows of 40 items and a fold of a fold make 1600.
        forty = rowof(*[YES] * 40)
        double = fun("t", fun("n", plus(ref("n"), ref("n"))))
        form = let("ts", forty, fold(rowof(*[YES] * 32), num(1), fun("u", fun("m", fold(ref("ts"), ref("m"), double)))))
        self.assertEqual(self.shelf.end(form, 10 ** 6), (num(2 ** 1280), NUMBER))
        large = 10 ** 399
        self.ends(less(num(large), plus(num(large), num(1))), YES, TRUTH)
        self.ends(like(num(large), plus(num(large - 1), num(1))), YES, TRUTH)
        self.ends(plus(num(-large), num(large)), num(0), NUMBER)

    def test_rows_of_forty_items(self):
        values = [(turn * 7) % 40 for turn in range(40)]
        small = told(fun("n", both(ref("n"), less(ref("n"), num(20)))), work(NUMBER, pair(NUMBER, TRUTH)))
        form = call(ref("each"), small, self.numbers(*values))
        end, kind = self.shelf.end(form, 10 ** 6)
        self.assertEqual(kind, row(pair(NUMBER, TRUTH)))
        self.assertEqual(value_of(end), [(value, value < 20) for value in values])
        for other, wanted in ((values, YES), (values[:39] + [-1], NO), (values[:39], NO)):
            form = like(self.numbers(*values), self.numbers(*other))
            self.assertEqual(self.shelf.end(form, 10 ** 6), (wanted, TRUTH))
        # All of forty against all of forty.
        form = fold(self.numbers(*values), num(0), fun("x", fun("n", plus(ref("n"), cond(
            call(ref("within"), ref("x"), self.numbers(*range(0, 80, 2))), num(1), num(0))))))
        self.assertEqual(self.shelf.end(form, 10 ** 6), (num(20), NUMBER))

    def test_forms_that_lie_forty_deep(self):
        for make in (
            lambda form: plus(form, num(1)), lambda form: plus(num(1), form),
            lambda form: let("x", form, plus(ref("x"), num(1))), lambda form: let("y", num(1), plus(ref("y"), form)),
            lambda form: cond(less(form, num(0)), num(5), num(6)),
            lambda form: left(both(form, YES)), lambda form: call(ref("same"), form),
            lambda form: call(told(fun("x", plus(ref("x"), ref("x"))), work(NUMBER, NUMBER)), form),
            lambda form: fold(rowof(YES, YES), form, fun("t", fun("n", plus(ref("n"), num(1))))),
            lambda form: cond(like(form, num(1)), num(2), num(1)),
        ):
            for depth in (12, 20, 60):
                form = deep(make, depth, num(1))
                with self.subTest(form=make(num(1)), depth=depth):
                    end, kind = self.shelf.end(form, 10 ** 6)
                    self.assertEqual((value_of(end), kind), (meaning(form, {}, FORMS), NUMBER))

    def test_definitions_upon_definitions(self):
        # The steps go as deep as there are definitions, which are not bounded.
        shelf = Shelf()
        shelf.tell("a", [], [], work(NUMBER, NUMBER), fun("n", ref("n")))
        texts = ["a"]
        for turn in range(1500):
            text = "".join(chr(97 + int(figure)) for figure in str(turn)) + "x"
            shelf.tell(text, [], [], work(NUMBER, NUMBER), fun("n", plus(num(1), call(ref(texts[-1]), ref("n")))))
            texts.append(text)
        self.assertEqual(shelf.end(call(ref(texts[-1]), num(5)), 10 ** 5), (num(1505), NUMBER))

    def test_a_value_that_is_used_twice_again_and_again(self):
        # Of a pair of a pair of a pair .. each time the same on both sides.
        form = ref("x")
        for _ in range(30):
            form = let("x", both(ref("x"), ref("x")), form)
        end, kind = self.shelf.end(let("x", num(1), form), 31)
        for _ in range(30):
            self.assertEqual(end[0], "both")
            end = end[2]
        self.assertEqual(end, num(1))


if __name__ == "__main__":
    unittest.main()
