import unittest

from allfirst import errors

PLAIN = ["TooMany", "BadName", "BadPlan", "BadPart", "TooLong", "NoPlan", "Unlike"]
WITH_ROW = ["BadRow", "NoName"]


def made(name):
    kind = getattr(errors, name)
    return kind(3) if name in WITH_ROW else kind()


class Refusals(unittest.TestCase):
    def test_each_is_an_all_error_and_a_value_error(self):
        for name in PLAIN + WITH_ROW:
            with self.subTest(name):
                self.assertIsInstance(made(name), errors.AllError)
                self.assertIsInstance(made(name), ValueError)

    def test_all_error_stands_straight_under_value_error(self):
        self.assertEqual(errors.AllError.__bases__, (ValueError,))

    def test_each_stands_straight_under_all_error(self):
        for name in PLAIN + WITH_ROW:
            with self.subTest(name):
                self.assertEqual(getattr(errors, name).__bases__, (errors.AllError,))

    def test_none_is_one_of_the_others(self):
        for name in PLAIN + WITH_ROW:
            for other in PLAIN + WITH_ROW:
                with self.subTest(name, other=other):
                    self.assertEqual(isinstance(made(name), getattr(errors, other)), name == other)

    def test_plain_ones_are_made_with_and_without_words(self):
        for name in PLAIN + ["AllError"]:
            with self.subTest(name):
                kind = getattr(errors, name)
                self.assertIn("some words", str(kind("some words")))
                kind()

    def test_row_is_a_field_of_each_object(self):
        for name in WITH_ROW:
            with self.subTest(name):
                kind = getattr(errors, name)
                one, other = kind(1), kind(10 ** 30)
                self.assertEqual((one.row, other.row), (1, 10 ** 30))
                self.assertIs(type(one.row), int)

    def test_row_is_asked_for(self):
        for name in WITH_ROW:
            with self.subTest(name):
                self.assertRaises(TypeError, getattr(errors, name))

    def test_row_is_there_when_it_is_taken(self):
        for name in WITH_ROW:
            with self.subTest(name):
                with self.assertRaises(errors.AllError) as taken:
                    raise getattr(errors, name)(row=7)
                self.assertEqual(taken.exception.row, 7)


if __name__ == "__main__":
    unittest.main()
