"""Point [8] and the interface of twomeet/errors.py."""

import copy
import unittest

from tests.helper import NUMBER, TRUTH, gap, name, pair, row, work
from twomeet import errors

# Each class of the program's own with those of them that it stands under.
UNDER = {
    "MeetError": [],
    "Refused": ["MeetError"],
    "Told": ["MeetError"],
    "Loose": ["MeetError"],
    "Stray": ["MeetError"],
    "TooLong": ["MeetError"],
    "Unmet": ["MeetError", "Refused"],
    "Unfit": ["MeetError", "Refused"],
    "Misused": ["MeetError", "Refused"],
    "NoRule": ["MeetError", "Refused"],
    "Unbound": ["MeetError", "Refused"],
    "Unsaid": ["MeetError", "Refused"],
}

# The values of each class that has some, in the order in which an object is made of them.
VALUES = {
    "Refused": ["place"],
    "Unmet": ["place", "wanted", "found"],
    "Unfit": ["place", "wanted"],
    "Misused": ["place", "found"],
    "NoRule": ["place", "kind"],
    "Unbound": ["place", "name"],
    "Unsaid": ["place"],
}

SAMPLES = {
    "place": [(), (0,), (1, 0, 2), tuple(range(40))],
    "wanted": [NUMBER, row(gap(0)), work(gap(1), name("abcdefgh"))],
    "found": [TRUTH, pair(NUMBER, gap(12)), name("a")],
    "kind": [work(NUMBER, NUMBER), name("b")],
    "name": ["a", "abcdefgh"],
}


def class_of(text):
    return getattr(errors, text)


def samples_of(text):
    """Several lists of values to make an object of that class with."""
    most = max([len(SAMPLES[value]) for value in VALUES[text]])
    return [[SAMPLES[value][turn % len(SAMPLES[value])] for value in VALUES[text]] for turn in range(most)]


class TreeTest(unittest.TestCase):
    def test_each_is_under_what_it_is_said_to_be_under_and_under_none_of_the_others(self):
        for below in UNDER:
            for above in UNDER:
                with self.subTest(below=below, above=above):
                    wanted = above == below or above in UNDER[below]
                    self.assertEqual(issubclass(class_of(below), class_of(above)), wanted)

    def test_all_are_value_errors_and_no_other_sort_of_error(self):
        for text in UNDER:
            with self.subTest(text):
                self.assertTrue(issubclass(class_of(text), ValueError))
                for other in (LookupError, TypeError, ArithmeticError, RuntimeError, AttributeError, UnicodeError):
                    self.assertFalse(issubclass(class_of(text), other))

    def test_meet_error_stands_straight_under_value_error(self):
        self.assertEqual(errors.MeetError.__bases__, (ValueError,))

    def test_each_is_a_class_of_its_own_by_its_name(self):
        for text in UNDER:
            self.assertEqual(class_of(text).__name__, text)

    def test_an_object_is_taken_by_those_it_stands_under_alone(self):
        for text in VALUES:
            error = class_of(text)(*samples_of(text)[0])
            for above in UNDER:
                with self.subTest(error=text, above=above):
                    wanted = above == text or above in UNDER[text]
                    self.assertEqual(isinstance(error, class_of(above)), wanted)


class ValueTest(unittest.TestCase):
    def test_values_are_there_from_when_the_object_is_made(self):
        for text in VALUES:
            for given in samples_of(text):
                error = class_of(text)(*given)
                for value, wanted in zip(VALUES[text], given):
                    with self.subTest(error=text, value=value):
                        self.assertEqual(getattr(error, value), wanted)

    def test_values_are_still_there_where_it_is_taken(self):
        for text in VALUES:
            given = samples_of(text)[-1]
            with self.subTest(text):
                with self.assertRaises(errors.MeetError) as taken:
                    raise class_of(text)(*given)
                self.assertEqual([getattr(taken.exception, value) for value in VALUES[text]], given)

    def test_each_object_has_its_own_values(self):
        first = errors.Unmet((0,), NUMBER, TRUTH)
        second = errors.Unmet((1,), TRUTH, NUMBER)
        self.assertEqual((first.place, first.wanted, first.found), ((0,), NUMBER, TRUTH))
        self.assertEqual((second.place, second.wanted, second.found), ((1,), TRUTH, NUMBER))

    def test_no_value_is_there_that_is_not_told_of_the_class(self):
        for text in VALUES:
            error = class_of(text)(*samples_of(text)[0])
            self.assertEqual(sorted(vars(error)), sorted(VALUES[text]), text)

    def test_an_object_without_its_values_is_not_made(self):
        for text in VALUES:
            for count in range(len(VALUES[text])):
                with self.subTest(error=text, count=count):
                    with self.assertRaises(TypeError):
                        class_of(text)(*samples_of(text)[0][:count])

    def test_those_without_values_are_made_with_words_or_without(self):
        for text in UNDER:
            if text not in VALUES:
                with self.subTest(text):
                    self.assertEqual(vars(class_of(text)()), {})
                    self.assertEqual(str(class_of(text)("some words")), "some words")

    def test_a_copy_tells_the_same(self):
        for text in VALUES:
            error = class_of(text)(*samples_of(text)[0])
            self.assertEqual(vars(copy.copy(error)), vars(error), text)


if __name__ == "__main__":
    unittest.main()
