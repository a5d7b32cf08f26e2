"""Points [1], [2] and [7] and the interface of twomeet/kinds.py."""

import unittest

from tests.helper import DEPTHS, EDGE_NAMES, NUMBER, TRUTH, WRAPS, ask, deep, gap, name, pair, row, work
from twomeet.kinds import filled, met, names_in

A = name("a")
B = name("b")
C = name("c")


class FilledTest(unittest.TestCase):
    def check(self, kind, filling, wanted):
        with self.subTest(kind=kind, filling=filling):
            self.assertEqual(ask(self, filled, kind, filling), wanted)

    def test_kinds_without_names_stay(self):
        for kind in (NUMBER, TRUTH, row(NUMBER), pair(NUMBER, TRUTH), work(TRUTH, row(NUMBER)), gap(0), row(gap(3))):
            self.check(kind, {}, kind)
            self.check(kind, {"a": TRUTH, "number": TRUTH, "truth": NUMBER, "row": NUMBER}, kind)

    def test_a_name_becomes_what_the_filling_has(self):
        for kind in (NUMBER, TRUTH, row(TRUTH), pair(NUMBER, TRUTH), work(NUMBER, TRUTH), B, gap(0)):
            self.check(A, {"a": kind}, kind)

    def test_names_below_rows_pairs_and_works(self):
        filling = {"a": NUMBER, "b": row(TRUTH)}
        self.check(row(A), filling, row(NUMBER))
        self.check(pair(A, B), filling, pair(NUMBER, row(TRUTH)))
        self.check(pair(B, A), filling, pair(row(TRUTH), NUMBER))
        self.check(work(A, B), filling, work(NUMBER, row(TRUTH)))
        self.check(work(row(pair(B, A)), A), filling, work(row(pair(row(TRUTH), NUMBER)), NUMBER))

    def test_names_that_the_filling_does_not_have_stay(self):
        self.check(A, {}, A)
        self.check(pair(A, B), {"b": NUMBER}, pair(A, NUMBER))
        self.check(work(row(C), pair(A, B)), {"a": TRUTH}, work(row(C), pair(TRUTH, B)))

    def test_a_filling_may_have_names_that_do_not_stand_in_the_kind(self):
        self.check(row(A), {"c": TRUTH, "a": NUMBER, "d": NUMBER}, row(NUMBER))
        self.check(NUMBER, {"a": TRUTH}, NUMBER)

    def test_all_names_are_put_in_at_once(self):
        self.check(pair(A, B), {"a": B, "b": A}, pair(B, A))
        self.check(pair(A, pair(B, C)), {"a": B, "b": C, "c": A}, pair(B, pair(C, A)))
        self.check(pair(C, pair(B, A)), {"a": B, "b": C, "c": NUMBER}, pair(NUMBER, pair(C, B)))

    def test_what_is_put_in_is_not_looked_through_again(self):
        self.check(A, {"a": row(A)}, row(A))
        self.check(A, {"a": A}, A)
        self.check(pair(A, B), {"a": pair(A, B), "b": work(B, A)}, pair(pair(A, B), work(B, A)))
        self.check(A, {"a": row(B), "b": NUMBER}, row(B))
        self.check(B, {"a": NUMBER, "b": row(A)}, row(A))

    def test_a_name_that_stands_several_times_is_the_same_everywhere(self):
        self.check(work(A, pair(row(A), A)), {"a": row(B)}, work(row(B), pair(row(row(B)), row(B))))

    def test_names_that_are_alike_but_for_one_letter(self):
        self.check(name("abcdefgh"), {"abcdefgi": NUMBER}, name("abcdefgh"))
        self.check(name("abcdefgh"), {"bbcdefgh": NUMBER}, name("abcdefgh"))
        self.check(name("abcdefgh"), {"abcdefg": NUMBER}, name("abcdefgh"))
        self.check(A, {"aa": NUMBER}, A)
        self.check(
            pair(name("abcdefgh"), name("abcdefgi")),
            {"abcdefgi": NUMBER, "abcdefgh": TRUTH},
            pair(TRUTH, NUMBER),
        )

    def test_names_at_the_edges_and_like_the_words_of_kinds(self):
        for text in EDGE_NAMES:
            self.check(row(name(text)), {text: TRUTH}, row(TRUTH))
            self.check(row(name(text)), {}, row(name(text)))

    def test_deep_kinds(self):
        for way in WRAPS:
            for depth in DEPTHS:
                with self.subTest(way=way, depth=depth):
                    kind = deep(WRAPS[way], depth, A)
                    wanted = deep(WRAPS[way], depth, row(B))
                    self.assertEqual(ask(self, filled, kind, {"a": row(B), "b": NUMBER}), wanted)
                    self.assertEqual(ask(self, filled, pair(A, B), {"b": kind}), pair(A, kind))

    def test_the_answer_stays_when_the_filling_is_changed_behind_the_call(self):
        filling = {"a": NUMBER}
        answer = filled(row(A), filling)
        filling["a"] = TRUTH
        self.assertEqual(answer, row(NUMBER))
        self.assertEqual(filled(row(A), filling), row(TRUTH))


class NamesInTest(unittest.TestCase):
    def check(self, kind, wanted):
        with self.subTest(kind=kind):
            self.assertEqual(ask(self, names_in, kind), wanted)

    def test_kinds_without_names(self):
        for kind in (NUMBER, TRUTH, row(NUMBER), pair(NUMBER, TRUTH), work(NUMBER, row(TRUTH)), gap(0), row(gap(1))):
            self.check(kind, [])

    def test_a_name_below_everything(self):
        self.check(A, ["a"])
        for way in WRAPS:
            self.check(WRAPS[way](A), ["a"])

    def test_names_come_as_they_first_stand_from_the_left(self):
        self.check(pair(A, B), ["a", "b"])
        self.check(pair(B, A), ["b", "a"])
        self.check(work(C, A), ["c", "a"])
        self.check(work(pair(C, row(B)), work(A, NUMBER)), ["c", "b", "a"])
        self.check(pair(row(row(B)), A), ["b", "a"])
        self.check(pair(C, pair(pair(name("z"), B), A)), ["c", "z", "b", "a"])

    def test_each_name_comes_once(self):
        self.check(pair(A, A), ["a"])
        self.check(work(B, pair(A, B)), ["b", "a"])
        self.check(pair(pair(A, B), pair(C, pair(A, B))), ["a", "b", "c"])
        self.check(pair(pair(B, pair(A, B)), pair(A, C)), ["b", "a", "c"])

    def test_names_that_are_alike_but_for_one_letter(self):
        self.check(
            pair(name("abcdefgi"), pair(name("abcdefgh"), pair(name("abcdefg"), name("bbcdefgh")))),
            ["abcdefgi", "abcdefgh", "abcdefg", "bbcdefgh"],
        )

    def test_names_at_the_edges_and_like_the_words_of_kinds(self):
        kind = NUMBER
        for text in reversed(EDGE_NAMES):
            kind = pair(name(text), kind)
        self.check(kind, EDGE_NAMES)

    def test_deep_kinds(self):
        for way in WRAPS:
            for depth in DEPTHS:
                with self.subTest(way=way, depth=depth):
                    kind = deep(WRAPS[way], depth, pair(B, A))
                    self.assertEqual(ask(self, names_in, kind), ["b", "a"])

    def test_the_answer_is_a_list_of_its_own(self):
        kind = pair(A, B)
        answer = names_in(kind)
        self.assertIsInstance(answer, list)
        answer.append("c")
        self.assertEqual(names_in(kind), ["a", "b"])


class MetTest(unittest.TestCase):
    def check(self, pattern, kind, found, wanted):
        with self.subTest(pattern=pattern, kind=kind, found=found):
            self.assertEqual(ask(self, met, pattern, kind, found), wanted)

    def test_without_gaps_the_same_kinds_meet_and_no_others(self):
        kinds = [
            NUMBER, TRUTH, A, B, name("number"), row(NUMBER), row(TRUTH), row(A), pair(NUMBER, NUMBER),
            pair(NUMBER, TRUTH), pair(TRUTH, NUMBER), pair(A, A), pair(A, B), work(NUMBER, NUMBER),
            work(NUMBER, TRUTH), work(TRUTH, NUMBER), work(A, B), row(row(NUMBER)), pair(row(A), B), work(row(A), B),
        ]
        for pattern in kinds:
            for kind in kinds:
                self.check(pattern, kind, {}, {} if pattern == kind else None)
                self.check(pattern, kind, {0: TRUTH}, {0: TRUTH} if pattern == kind else None)

    def test_a_gap_becomes_what_stands_there(self):
        for kind in (NUMBER, TRUTH, A, row(NUMBER), pair(A, TRUTH), work(NUMBER, row(B))):
            self.check(gap(0), kind, {}, {0: kind})
            self.check(gap(7), kind, {}, {7: kind})
            for way in WRAPS:
                self.check(WRAPS[way](gap(0)), WRAPS[way](kind), {}, {0: kind})

    def test_gaps_on_both_sides(self):
        self.check(pair(gap(0), gap(1)), pair(NUMBER, TRUTH), {}, {0: NUMBER, 1: TRUTH})
        self.check(pair(gap(1), gap(0)), pair(NUMBER, TRUTH), {}, {1: NUMBER, 0: TRUTH})
        self.check(work(gap(0), row(gap(1))), work(row(A), row(B)), {}, {0: row(A), 1: B})
        self.check(
            work(pair(gap(2), row(gap(0))), work(gap(1), gap(2))),
            work(pair(A, row(TRUTH)), work(NUMBER, A)),
            {},
            {0: TRUTH, 1: NUMBER, 2: A},
        )

    def test_what_stands_around_a_gap_has_to_be_the_same(self):
        self.check(row(gap(0)), NUMBER, {}, None)
        self.check(row(gap(0)), A, {}, None)
        self.check(row(gap(0)), pair(NUMBER, NUMBER), {}, None)
        self.check(pair(gap(0), gap(1)), work(NUMBER, TRUTH), {}, None)
        self.check(work(gap(0), gap(1)), pair(NUMBER, TRUTH), {}, None)
        self.check(pair(gap(0), gap(0)), row(NUMBER), {}, None)
        self.check(pair(gap(0), NUMBER), pair(NUMBER, TRUTH), {}, None)
        self.check(pair(NUMBER, gap(0)), pair(TRUTH, NUMBER), {}, None)
        self.check(pair(NUMBER, gap(0)), pair(NUMBER, TRUTH), {}, {0: TRUTH})
        self.check(pair(gap(0), NUMBER), pair(TRUTH, NUMBER), {}, {0: TRUTH})
        self.check(pair(gap(0), A), pair(NUMBER, B), {}, None)
        self.check(pair(gap(0), A), pair(NUMBER, A), {}, {0: NUMBER})

    def test_a_name_in_a_pattern_is_no_gap(self):
        self.check(A, NUMBER, {}, None)
        self.check(row(A), row(NUMBER), {}, None)
        self.check(name("gap"), NUMBER, {}, None)
        self.check(name("abcdefgh"), name("abcdefgi"), {}, None)
        self.check(name("abcdefgh"), name("abcdefgh"), {}, {})

    def test_a_gap_that_stands_twice_is_the_same_everywhere(self):
        for kind in (NUMBER, A, row(pair(A, TRUTH)), work(A, B)):
            self.check(pair(gap(0), gap(0)), pair(kind, kind), {}, {0: kind})
            self.check(work(gap(3), row(gap(3))), work(kind, row(kind)), {}, {3: kind})

    def test_a_gap_that_stands_for_two_parts_is_not_met(self):
        self.check(pair(gap(0), gap(0)), pair(NUMBER, TRUTH), {}, None)
        self.check(pair(gap(0), gap(0)), pair(A, B), {}, None)
        self.check(pair(gap(0), gap(0)), pair(row(A), row(B)), {}, None)
        self.check(work(gap(0), row(gap(0))), work(NUMBER, row(TRUTH)), {}, None)
        self.check(work(gap(0), row(gap(0))), work(row(NUMBER), row(row(TRUTH))), {}, None)
        self.check(pair(pair(gap(0), gap(1)), gap(0)), pair(pair(NUMBER, TRUTH), TRUTH), {}, None)
        self.check(pair(pair(gap(0), gap(1)), gap(1)), pair(pair(NUMBER, TRUTH), TRUTH), {}, {0: NUMBER, 1: TRUTH})

    def test_a_gap_found_ahead_is_the_same_here(self):
        self.check(gap(0), NUMBER, {0: NUMBER}, {0: NUMBER})
        self.check(row(gap(1)), row(row(A)), {1: row(A)}, {1: row(A)})
        self.check(pair(gap(0), gap(1)), pair(NUMBER, TRUTH), {1: TRUTH}, {0: NUMBER, 1: TRUTH})
        self.check(pair(gap(0), gap(1)), pair(NUMBER, TRUTH), {0: NUMBER}, {0: NUMBER, 1: TRUTH})

    def test_a_gap_found_ahead_to_be_another_is_not_met(self):
        self.check(gap(0), NUMBER, {0: TRUTH}, None)
        self.check(gap(0), row(A), {0: row(B)}, None)
        self.check(gap(0), A, {0: B}, None)
        self.check(row(gap(1)), row(TRUTH), {1: row(TRUTH)}, None)
        self.check(pair(gap(0), gap(1)), pair(NUMBER, TRUTH), {1: NUMBER}, None)
        self.check(pair(gap(0), gap(1)), pair(NUMBER, TRUTH), {0: TRUTH}, None)

    def test_what_was_found_ahead_for_others_is_in_the_answer(self):
        self.check(gap(0), NUMBER, {1: TRUTH, 5: A}, {0: NUMBER, 1: TRUTH, 5: A})
        self.check(NUMBER, NUMBER, {0: A}, {0: A})
        self.check(row(TRUTH), row(TRUTH), {2: A, 0: B}, {2: A, 0: B})
        self.check(pair(gap(1), gap(2)), pair(A, B), {0: NUMBER}, {0: NUMBER, 1: A, 2: B})

    def test_nothing_found_is_an_empty_dict_and_not_none(self):
        for kind in (NUMBER, A, pair(row(A), work(NUMBER, TRUTH))):
            answer = met(kind, kind, {})
            self.assertIsInstance(answer, dict)
            self.assertEqual(answer, {})

    def test_the_dict_that_is_handed_in_stays_as_it_was(self):
        for pattern, kind in (
            (gap(0), NUMBER), (NUMBER, NUMBER), (row(TRUTH), row(TRUTH)), (pair(gap(1), gap(0)), pair(A, B)),
            (pair(gap(0), NUMBER), pair(A, TRUTH)), (pair(gap(0), gap(0)), pair(A, B)), (pair(NUMBER, A), NUMBER),
        ):
            for handed in ({}, {8: TRUTH}):
                with self.subTest(pattern=pattern, kind=kind, handed=handed):
                    found = dict(handed)
                    met(pattern, kind, found)
                    self.assertEqual(found, handed)

    def test_the_answer_is_a_dict_of_its_own(self):
        for pattern, kind, found in (
            (gap(0), NUMBER, {0: NUMBER}), (gap(0), NUMBER, {}), (NUMBER, NUMBER, {0: A}),
            (row(A), row(A), {}), (pair(gap(0), NUMBER), pair(A, NUMBER), {0: A}),
        ):
            with self.subTest(pattern=pattern, found=found):
                handed = dict(found)
                answer = met(pattern, kind, found)
                wanted = dict(answer)
                answer[9] = TRUTH
                self.assertEqual(found, handed)
                self.assertEqual(met(pattern, kind, found), wanted)

    def test_the_answer_may_be_handed_in_ahead_of_the_next_meeting(self):
        first = met(row(gap(0)), row(NUMBER), {})
        self.check(work(gap(0), gap(1)), work(NUMBER, TRUTH), first, {0: NUMBER, 1: TRUTH})
        self.check(work(gap(1), gap(0)), work(NUMBER, TRUTH), first, None)

    def test_numbers_of_many_figures(self):
        large = 10 ** 399
        self.check(pair(gap(large), gap(large + 1)), pair(A, B), {}, {large: A, large + 1: B})
        self.check(pair(gap(large), gap(large)), pair(A, B), {}, None)

    def test_deep_kinds(self):
        for way in WRAPS:
            for depth in DEPTHS:
                with self.subTest(way=way, depth=depth):
                    pattern = deep(WRAPS[way], depth, gap(0))
                    for kind in (A, row(A), pair(A, B)):
                        self.assertEqual(ask(self, met, pattern, deep(WRAPS[way], depth, kind), {}), {0: kind})
                    self.assertIsNone(ask(self, met, pattern, deep(WRAPS[way], depth - 1, A), {}))
                    kind = deep(WRAPS[way], depth, A)
                    self.assertEqual(ask(self, met, gap(4), kind, {}), {4: kind})
                    self.assertEqual(ask(self, met, kind, deep(WRAPS[way], depth, A), {}), {})
                    self.assertIsNone(ask(self, met, kind, deep(WRAPS[way], depth, B), {}))

    def test_what_is_filled_by_the_answer_is_the_kind(self):
        pattern = work(pair(A, row(B)), work(B, pair(A, A)))
        gaps = filled(pattern, {"a": gap(0), "b": gap(1)})
        kind = filled(pattern, {"a": row(C), "b": work(A, B)})
        self.check(gaps, kind, {}, {0: row(C), 1: work(A, B)})


if __name__ == "__main__":
    unittest.main()
