"""Point 20: each refusal has its class and its word."""

import unittest

from papercircle import errors
from papercircle.errors import CircleError

WORDS = {
    "BadKinds": "bad kinds",
    "BadOrder": "bad order",
    "BadName": "bad name",
    "UnknownHouse": "unknown house",
    "KnownHouse": "known house",
    "LeftHouse": "left house",
    "UnknownKind": "unknown kind",
    "BadAges": "bad ages",
    "BadAmount": "bad amount",
    "Dearer": "dearer",
    "BadCounts": "bad counts",
    "UnknownWeek": "unknown week",
    "UnknownFolder": "unknown folder",
    "NoFolder": "no folder",
    "CircleFull": "circle full",
    "LastWeek": "last week",
    "BookFull": "book full",
}


def refusals():
    return [(name, getattr(errors, name)) for name in WORDS]


class ErrorsTest(unittest.TestCase):
    def test_there_are_seventeen_refusals_and_no_others(self):
        found = [
            name
            for name, value in vars(errors).items()
            if isinstance(value, type) and value is not CircleError
        ]
        self.assertEqual(len(found), 17)
        self.assertEqual(sorted(found), sorted(WORDS))

    def test_circle_error_stands_under_value_error(self):
        self.assertTrue(issubclass(CircleError, ValueError))
        self.assertIsNot(CircleError, ValueError)

    def test_each_is_a_class_of_its_own_name(self):
        for name, refusal in refusals():
            with self.subTest(name):
                self.assertEqual(refusal.__name__, name)

    def test_each_stands_under_circle_error_and_value_error(self):
        for name, refusal in refusals():
            with self.subTest(name):
                self.assertTrue(issubclass(refusal, CircleError))
                self.assertTrue(issubclass(refusal, ValueError))
                self.assertIsNot(refusal, CircleError)

    def test_none_stands_under_another(self):
        for name, refusal in refusals():
            for other_name, other in refusals():
                if name != other_name:
                    with self.subTest(name, other=other_name):
                        self.assertFalse(issubclass(refusal, other))

    def test_each_is_raised_and_taken_as_circle_error(self):
        for name, refusal in refusals():
            for words in ((), ("some words",)):
                with self.subTest(name, words=words):
                    with self.assertRaises(CircleError) as taken:
                        raise refusal(*words)
                    self.assertIs(type(taken.exception), refusal)

    def test_each_is_taken_as_value_error(self):
        for name, refusal in refusals():
            with self.subTest(name):
                with self.assertRaises(ValueError):
                    raise refusal()

    def test_each_has_its_word_whatever_it_is_raised_with(self):
        for name, refusal in refusals():
            with self.subTest(name):
                self.assertEqual(refusal().word(), WORDS[name])
                self.assertEqual(refusal("other words").word(), WORDS[name])


if __name__ == "__main__":
    unittest.main()
