"""Points [1], [3] and [8] and the interface of twomeet/likes.py."""

import unittest

from tests.helper import DEPTHS, EDGE_NAMES, NUMBER, TRUTH, WRAPS, ask, deep, name, pair, row, work
from twomeet.likes import likeness, unlikely

A = name("a")
B = name("b")
C = name("c")
NUMBERS = ("like", NUMBER)
TRUTHS = ("like", TRUTH)
LIKE_WRAPS = ("row", "left of a pair", "right of a pair")


class UnlikelyTest(unittest.TestCase):
    def check(self, kind, needs, wanted):
        with self.subTest(kind=kind, needs=needs):
            self.assertEqual(ask(self, unlikely, kind, needs), wanted)

    def test_numbers_and_truths_and_what_is_made_of_them(self):
        for needs in ([], ["a"]):
            for kind in (NUMBER, TRUTH, row(NUMBER), pair(TRUTH, NUMBER), row(pair(row(TRUTH), row(row(NUMBER))))):
                self.check(kind, needs, None)

    def test_a_work_at_the_top_is_told_itself(self):
        for kind in (work(NUMBER, TRUTH), work(A, B), work(work(NUMBER, NUMBER), TRUTH), work(TRUTH, work(A, A))):
            self.check(kind, [], kind)
            self.check(kind, ["a", "b"], kind)

    def test_a_work_on_either_side_of_a_pair_and_in_a_row(self):
        kind = work(NUMBER, TRUTH)
        for needs in ([], ["a", "b"]):
            self.check(pair(kind, NUMBER), needs, kind)
            self.check(pair(NUMBER, kind), needs, kind)
            self.check(row(kind), needs, kind)
            self.check(row(pair(TRUTH, row(kind))), needs, kind)
            self.check(pair(kind, work(TRUTH, TRUTH)), needs, kind)
            self.check(pair(pair(NUMBER, kind), work(TRUTH, TRUTH)), needs, kind)

    def test_a_name_that_is_needed_and_one_that_is_not(self):
        self.check(A, ["a"], None)
        self.check(A, [], A)
        self.check(A, ["b"], A)
        self.check(row(A), ["b", "a"], None)
        self.check(row(A), ["b"], A)

    def test_a_needed_name_beside_one_that_is_not(self):
        self.check(pair(A, B), ["a"], B)
        self.check(pair(A, B), ["b"], A)
        self.check(pair(A, B), ["b", "a"], None)
        self.check(pair(A, B), [], A)
        self.check(pair(B, A), [], B)
        self.check(row(pair(pair(A, B), pair(A, C))), ["a", "c"], B)
        self.check(row(pair(pair(A, B), pair(A, C))), ["b", "a"], C)
        self.check(row(pair(pair(A, B), pair(A, C))), ["c", "b", "a"], None)

    def test_the_first_from_the_left_is_told(self):
        self.check(pair(A, work(NUMBER, NUMBER)), [], A)
        self.check(pair(A, work(NUMBER, NUMBER)), ["a"], work(NUMBER, NUMBER))
        self.check(pair(work(A, A), B), [], work(A, A))
        self.check(pair(row(pair(A, B)), work(TRUTH, C)), ["a"], B)
        self.check(pair(row(pair(A, NUMBER)), work(TRUTH, C)), ["a"], work(TRUTH, C))
        self.check(pair(pair(NUMBER, C), pair(B, A)), [], C)

    def test_a_work_is_told_and_no_name_within_it(self):
        self.check(pair(NUMBER, work(A, B)), [], work(A, B))
        self.check(row(work(A, B)), ["a"], work(A, B))

    def test_names_that_are_alike_but_for_one_letter(self):
        self.check(name("abcdefgh"), ["abcdefgi", "bbcdefgh", "abcdefg", "abcdefghi"], name("abcdefgh"))
        self.check(pair(name("abcdefgh"), name("abcdefgi")), ["abcdefgh"], name("abcdefgi"))
        self.check(A, ["aa", "ba"], A)

    def test_names_at_the_edges_and_like_the_words_of_kinds(self):
        for text in EDGE_NAMES:
            self.check(row(name(text)), [text], None)
            self.check(row(name(text)), [], name(text))

    def test_deep_kinds(self):
        for way in LIKE_WRAPS:
            for depth in DEPTHS:
                with self.subTest(way=way, depth=depth):
                    kind = deep(WRAPS[way], depth, pair(A, B))
                    self.assertIsNone(ask(self, unlikely, kind, ["a", "b"]))
                    self.assertEqual(ask(self, unlikely, kind, ["a"]), B)
                    kind = deep(WRAPS[way], depth, work(A, B))
                    self.assertEqual(ask(self, unlikely, kind, ["a", "b"]), work(A, B))

    def test_needs_may_be_changed_behind_the_call(self):
        needs = ["a"]
        self.assertIsNone(unlikely(A, needs))
        needs[0] = "b"
        self.assertEqual(unlikely(A, needs), A)


class LikenessTest(unittest.TestCase):
    def check(self, kind, given, wanted):
        with self.subTest(kind=kind, given=given):
            self.assertEqual(ask(self, likeness, kind, given), wanted)

    def test_numbers_and_truths_by_themselves(self):
        for given in ({}, {"a": ("var", 0), "number": ("var", 1), "truth": ("var", 2)}):
            self.check(NUMBER, given, NUMBERS)
            self.check(TRUTH, given, TRUTHS)

    def test_rows_and_pairs_by_their_parts(self):
        self.check(row(NUMBER), {}, ("likerow", NUMBERS))
        self.check(row(TRUTH), {}, ("likerow", TRUTHS))
        self.check(row(row(TRUTH)), {}, ("likerow", ("likerow", TRUTHS)))
        self.check(pair(NUMBER, TRUTH), {}, ("likepair", NUMBERS, TRUTHS))
        self.check(pair(TRUTH, NUMBER), {}, ("likepair", TRUTHS, NUMBERS))
        self.check(pair(row(NUMBER), TRUTH), {}, ("likepair", ("likerow", NUMBERS), TRUTHS))
        self.check(pair(TRUTH, pair(NUMBER, NUMBER)), {}, ("likepair", TRUTHS, ("likepair", NUMBERS, NUMBERS)))

    def test_names_by_the_core_that_is_given(self):
        for core in (("var", 0), ("var", 7), NUMBERS, ("likerow", ("var", 1)), ("likepair", TRUTHS, ("var", 0))):
            self.check(A, {"a": core}, core)
            self.check(row(A), {"a": core, "b": ("var", 9)}, ("likerow", core))
            self.check(pair(A, A), {"a": core}, ("likepair", core, core))

    def test_rows_of_pairs_of_names(self):
        given = {"a": ("var", 1), "b": ("var", 0)}
        self.check(row(pair(A, B)), given, ("likerow", ("likepair", ("var", 1), ("var", 0))))
        self.check(row(pair(B, A)), given, ("likerow", ("likepair", ("var", 0), ("var", 1))))
        self.check(
            row(pair(row(B), pair(A, NUMBER))),
            given,
            ("likerow", ("likepair", ("likerow", ("var", 0)), ("likepair", ("var", 1), NUMBERS))),
        )

    def test_names_that_are_alike_but_for_one_letter(self):
        given = {"abcdefgi": ("var", 0), "abcdefgh": ("var", 1), "abcdefg": ("var", 2)}
        self.check(name("abcdefgh"), given, ("var", 1))
        self.check(pair(name("abcdefgi"), name("abcdefg")), given, ("likepair", ("var", 0), ("var", 2)))

    def test_names_at_the_edges_and_like_the_words_of_kinds(self):
        given = dict([(text, ("var", place)) for place, text in enumerate(EDGE_NAMES)])
        for place, text in enumerate(EDGE_NAMES):
            self.check(name(text), given, ("var", place))

    def test_a_core_that_is_given_is_not_looked_through(self):
        core = ("call", ("fun", A, ("var", 0)), ("like", A))
        self.check(row(A), {"a": core}, ("likerow", core))

    def test_deep_kinds(self):
        core_wraps = {
            "row": lambda core: ("likerow", core),
            "left of a pair": lambda core: ("likepair", core, NUMBERS),
            "right of a pair": lambda core: ("likepair", NUMBERS, core),
        }
        for way in LIKE_WRAPS:
            for depth in DEPTHS:
                with self.subTest(way=way, depth=depth):
                    kind = deep(WRAPS[way], depth, A)
                    wanted = deep(core_wraps[way], depth, ("var", 3))
                    self.assertEqual(ask(self, likeness, kind, {"a": ("var", 3)}), wanted)

    def test_the_answer_stays_when_given_is_changed_behind_the_call(self):
        given = {"a": ("var", 0)}
        answer = likeness(row(A), given)
        given["a"] = ("var", 1)
        self.assertEqual(answer, ("likerow", ("var", 0)))
        self.assertEqual(likeness(row(A), given), ("likerow", ("var", 1)))

    def test_there_is_one_wherever_nothing_is_unlikely(self):
        for kind in (row(pair(A, B)), pair(row(NUMBER), TRUTH), A):
            self.assertIsNone(unlikely(kind, ["a", "b"]))
            self.assertIsInstance(likeness(kind, {"a": ("var", 0), "b": ("var", 1)}), tuple)


if __name__ == "__main__":
    unittest.main()
