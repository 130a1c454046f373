"""Nothing that is handed in is changed or kept, and what is told is the asker's own."""

import copy
import unittest

from allfirst.forms import all_of, first_of, form_hour, put_into, thing_form, waited
from allfirst.rows import joined, row_hour, shifted, thinned, under

ONE = [((0, 1), (1, 0)), ((2, -3),)]
OTHER = [((0, 4),), ((1, 2), (2, 0))]
STRANGE = ((9, 9),)

TOLD_LISTS = [
    (thinned, [ONE + OTHER]),
    (thinned, [ONE]),
    (thinned, [[]]),
    (thing_form, [4]),
    (waited, [ONE, 3]),
    (waited, [ONE, 0]),
    (first_of, [[ONE], 60]),
    (first_of, [[ONE, OTHER], 60]),
    (first_of, [[ONE, ONE], 60]),
    (all_of, [[OTHER], 60]),
    (all_of, [[ONE, OTHER], 60]),
    (all_of, [[ONE, ONE], 60]),
    (put_into, [ONE, [OTHER, ONE, OTHER], 60]),
    (put_into, [thing_form(0), [ONE], 60]),
]

TOLD_OTHERS = [
    (row_hour, [ONE[0], [3, -4, 5]]),
    (under, [ONE[0], OTHER[1]]),
    (joined, [ONE[0], OTHER[1]]),
    (shifted, [ONE[0], -2]),
    (form_hour, [ONE, [3, -4, 5]]),
]


def lists_within(value):
    """The lists of a value, itself too, with those that lie in others."""
    if isinstance(value, list):
        return [value] + [inner for part in value for inner in lists_within(part)]
    return []


class Owning(unittest.TestCase):
    def test_what_is_handed_in_stays_as_it_was(self):
        for asked, handed in TOLD_LISTS + TOLD_OTHERS:
            with self.subTest(asked.__name__, handed=handed):
                given = copy.deepcopy(handed)
                asked(*given)
                self.assertEqual(given, handed)

    def test_what_is_told_is_none_of_what_was_handed_in(self):
        for asked, handed in TOLD_LISTS:
            with self.subTest(asked.__name__, handed=handed):
                given = copy.deepcopy(handed)
                told = asked(*given)
                self.assertFalse(any(told is inner for inner in lists_within(given)))

    def test_no_two_lists_that_are_told_are_one(self):
        for asked, handed in TOLD_LISTS:
            with self.subTest(asked.__name__, handed=handed):
                given = copy.deepcopy(handed)
                self.assertIsNot(asked(*given), asked(*given))

    def test_what_the_asker_does_to_it_changes_nothing(self):
        for asked, handed in TOLD_LISTS:
            with self.subTest(asked.__name__, handed=handed):
                given = copy.deepcopy(handed)
                told = asked(*given)
                before = list(told)
                told.append(STRANGE)
                told.reverse()
                self.assertEqual(given, handed)
                self.assertEqual(asked(*given), before)

    def test_what_is_done_to_what_was_handed_in_changes_nothing_told(self):
        for asked, handed in TOLD_LISTS:
            with self.subTest(asked.__name__, handed=handed):
                given = copy.deepcopy(handed)
                told = asked(*given)
                before = list(told)
                for inner in lists_within(given):
                    inner.clear()
                self.assertEqual(told, before)
                self.assertEqual(asked(*copy.deepcopy(handed)), before)

    def test_kinds(self):
        for asked, handed in TOLD_LISTS:
            with self.subTest(asked.__name__, handed=handed):
                told = asked(*handed)
                self.assertIs(type(told), list)
                for row in told:
                    self.assertIs(type(row), tuple)
                    self.assertEqual({type(pair) for pair in row}, {tuple})
                    self.assertEqual({type(number) for pair in row for number in pair}, {int})
        for asked, handed in TOLD_OTHERS:
            with self.subTest(asked.__name__, handed=handed):
                kind = bool if asked is under else int if asked in (row_hour, form_hour) else tuple
                self.assertIs(type(asked(*handed)), kind)

    def test_lists_of_rows_rise(self):
        for asked, handed in TOLD_LISTS:
            with self.subTest(asked.__name__, handed=handed):
                told = asked(*handed)
                self.assertEqual(told, sorted(told))


if __name__ == "__main__":
    unittest.main()
