"""Point 4: each refusal has a class of its own, which tells its name."""

import unittest

from bridgecrews import errors

NAMES = [
    "BadTown", "BadSome", "BadQuarters", "BadParting", "BadCount", "BadWages", "BadDealing",
    "BadLimits", "BadTree", "BadDeed", "BadText", "TooSmall", "TooLarge",
]


class TheClasses(unittest.TestCase):
    def test_there_are_thirteen_and_crew_error(self):
        found = [name for name, value in vars(errors).items() if isinstance(value, type)]
        self.assertEqual(sorted(found), sorted(NAMES + ["CrewError"]))

    def test_crew_error_stands_under_value_error(self):
        self.assertEqual(errors.CrewError.__bases__, (ValueError,))
        self.assertEqual(errors.CrewError().called(), "CrewError")

    def test_each_stands_under_crew_error(self):
        for name in NAMES:
            with self.subTest(name):
                self.assertTrue(issubclass(getattr(errors, name), errors.CrewError))
                self.assertTrue(issubclass(getattr(errors, name), ValueError))

    def test_none_stands_under_another_one(self):
        for name in NAMES:
            for other in NAMES:
                if name != other:
                    with self.subTest(name=name, other=other):
                        self.assertFalse(issubclass(getattr(errors, name), getattr(errors, other)))

    def test_each_has_its_own_called(self):
        for name in NAMES:
            with self.subTest(name):
                self.assertIn("called", vars(getattr(errors, name)))


class Called(unittest.TestCase):
    def test_tells_the_name_of_the_class(self):
        for name in NAMES:
            with self.subTest(name):
                told = getattr(errors, name)().called()
                self.assertIs(type(told), str)
                self.assertEqual(told, name)

    def test_tells_the_name_whatever_the_words(self):
        for name in NAMES:
            with self.subTest(name):
                self.assertEqual(getattr(errors, name)("some words").called(), name)

    def test_tells_the_name_where_it_is_caught_as_crew_error(self):
        for name in NAMES:
            with self.subTest(name):
                with self.assertRaises(errors.CrewError) as caught:
                    raise getattr(errors, name)("some words")
                self.assertEqual(caught.exception.called(), name)

    def test_is_caught_by_its_own_class_alone(self):
        for name in NAMES:
            for other in NAMES:
                if name != other:
                    with self.subTest(name=name, other=other):
                        with self.assertRaises(getattr(errors, name)):
                            try:
                                raise getattr(errors, name)()
                            except getattr(errors, other):
                                pass


if __name__ == "__main__":
    unittest.main()
