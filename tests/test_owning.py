"""Nothing that is handed in is changed or kept, and what is told is the asker's own."""

import copy
import unittest

from allfirst.boxes import earliest, keeps_earliest, keeps_latest, latest, windows
from allfirst.columns import column_hour, columns_hour, meeting, over, thinned_columns, turned, turned_back
from allfirst.forms import all_of, first_of, form_hour, put_into, thing_form, waited
from allfirst.holding import gain, holders, slack, ways
from allfirst.judging import held_up, judged, kept_by
from allfirst.lags import compared, lag, lag_paper, later_by
from allfirst.looking import is_name, looked, weight
from allfirst.plan import Book, Plan
from allfirst.planforms import forms_of, planned, told_form
from allfirst.reading import read
from allfirst.rounds import bound, is_paper, round_forms, round_hours
from allfirst.rows import joined, row_hour, shifted, thinned, under
from allfirst.running import hours_of, told_hour
from allfirst.writing import shown

ONE = [((0, 1), (1, 0)), ((2, -3),)]
OTHER = [((0, 4),), ((1, 2), (2, 0))]
HOURS = [3, -4, 5]
STRANGE = ((9, 9),)
MEET = Plan("meet", ["a", "b", "c"], [("m", "first", ((0, 1), (1, 0))), ("end", "all", ((3, 0), (2, -4)))])
PARTS = [("m", "meet", ((0, 0), (1, 0), (2, 0))), ("n", "meet", ((0, 0), (1, 0), (2, 0))), ("end", "all", ((3, 0),))]
BOOK = Book([MEET, Plan("user", ["a", "b", "c"], PARTS), Plan("last", ["x", "y", "z"], [("end", "first", ((1, 0),))])])
TEXT = shown(BOOK)

# Those that tell lists of rows, columns or boxes, which rise.
TOLD_ROWS = [
    (thinned, [ONE + OTHER]),
    (thinned, [ONE]),
    (thinned, [[]]),
    (thing_form, [4]),
    (waited, [ONE, 3]),
    (waited, [ONE, 0]),
    (first_of, [[ONE], 60]),
    (first_of, [[ONE, OTHER], 60]),
    (first_of, [[ONE, ONE], 60]),
    (all_of, [[OTHER], 60]),
    (all_of, [[ONE, OTHER], 60]),
    (all_of, [[ONE, ONE], 60]),
    (put_into, [ONE, [OTHER, ONE, OTHER], 60]),
    (put_into, [thing_form(0), [ONE], 60]),
    (thinned_columns, [ONE + OTHER]),
    (thinned_columns, [ONE]),
    (thinned_columns, [[]]),
    (turned, [ONE, 60]),
    (turned, [thing_form(1), 60]),
    (turned_back, [OTHER, 60]),
    (turned_back, [thing_form(1), 60]),
    (latest, [[ONE], [0], 60]),
    (latest, [[ONE, OTHER], [5, -5], 60]),
    (earliest, [[ONE], [0], 60]),
    (earliest, [[ONE, OTHER], [5, -5], 60]),
    (told_form, [BOOK, "meet", 60]),
    (told_form, [BOOK, "user", 60]),
]

TOLD_LISTS = TOLD_ROWS + [
    (lag_paper, [ONE, ONE]),
    (later_by, [ONE, OTHER, 1, 3]),
    (later_by, [ONE, OTHER, 1, 12]),
    (compared, [ONE, OTHER, 3]),
    (windows, [ONE, OTHER]),
    (windows, [[], OTHER]),
    (ways, [ONE, HOURS]),
    (holders, [ONE, HOURS, 60]),
    (round_hours, [[ONE, OTHER, ONE], HOURS, 0]),
    (round_hours, [[ONE, OTHER, ONE], HOURS, 3]),
    (round_forms, [[ONE, OTHER, ONE], 0, 60]),
    (round_forms, [[ONE, OTHER, ONE], 1, 60]),
    (round_forms, [[ONE, OTHER, ONE], 2, 60]),
    (bound, [HOURS, 4, [0, 0, 0], 0]),
    (bound, [HOURS, 4, HOURS, 7]),
    (hours_of, [BOOK, "user", HOURS]),
    (forms_of, [BOOK, "meet", 60]),
    (forms_of, [BOOK, "user", 60]),
    (planned, ["one", 3, ONE]),
    (planned, ["one", 12, OTHER]),
    (read, [TEXT]),
    (judged, [TEXT, "meet", "last", 60]),
    (judged, [TEXT, "last", "user", 60]),
    (kept_by, [TEXT, "user", 7, 60]),
    (held_up, [TEXT, "user", HOURS, 60]),
]

TOLD_NUMBERS = [
    (row_hour, [ONE[0], HOURS]),
    (form_hour, [ONE, HOURS]),
    (lag, [ONE, [((0, 0), (1, 0)), ((2, 0),)]]),
    (column_hour, [ONE[0], HOURS]),
    (columns_hour, [ONE, HOURS]),
    (meeting, [ONE[0], ((1, -1),)]),
    (slack, [[((0, 1), (1, 0))], HOURS, 1]),
    (gain, [[((0, 1), (1, 0))], HOURS, 0]),
    (weight, [BOOK, "user"]),
    (told_hour, [BOOK, "user", HOURS]),
]

TOLD_TRUTHS = [
    (under, [ONE[0], OTHER[1]]),
    (over, [ONE[0], OTHER[1]]),
    (keeps_latest, [ONE[0], HOURS]),
    (keeps_earliest, [ONE[0], HOURS]),
    (is_paper, [[ONE, OTHER, ONE], HOURS, 4]),
    (is_name, ["end"]),
]

TOLD_TUPLES = [
    (joined, [ONE[0], OTHER[1]]),
    (shifted, [ONE[0], -2]),
]


TOLD_BESIDES = [
    (looked, [BOOK]),
    (shown, [BOOK]),
]


def plainly(value):
    """The value with books and plans as tuples of their fields, so that two can be compared."""
    if isinstance(value, (Book, Plan)):
        return tuple(plainly(field) for field in vars(value).values())
    if isinstance(value, (list, tuple)):
        return type(value)(plainly(part) for part in value)
    return value


def lists_within(value):
    """The lists of a value, itself too, with those that lie in others, in tuples, plans or books."""
    own = [value] if isinstance(value, list) else []
    if isinstance(value, (Book, Plan)):
        return lists_within(tuple(vars(value).values()))
    if isinstance(value, (list, tuple)):
        return own + [inner for part in value for inner in lists_within(part)]
    return own


class Owning(unittest.TestCase):
    def test_what_is_handed_in_stays_as_it_was(self):
        for asked, handed in TOLD_LISTS + TOLD_NUMBERS + TOLD_TRUTHS + TOLD_TUPLES + TOLD_BESIDES:
            with self.subTest(asked.__name__, handed=handed):
                given = copy.deepcopy(handed)
                asked(*given)
                self.assertEqual(plainly(given), plainly(handed))

    def test_what_is_told_is_none_of_what_was_handed_in(self):
        for asked, handed in TOLD_LISTS:
            with self.subTest(asked.__name__, handed=handed):
                given = copy.deepcopy(handed)
                told = lists_within(asked(*given))
                self.assertNotEqual(told, [])
                self.assertFalse(any(one is other for one in told for other in lists_within(given)))

    def test_no_two_lists_that_are_told_are_one(self):
        for asked, handed in TOLD_LISTS:
            with self.subTest(asked.__name__, handed=handed):
                given = copy.deepcopy(handed)
                told = lists_within(asked(*given)) + lists_within(asked(*given))
                self.assertEqual(len({id(inner) for inner in told}), len(told))

    def test_what_the_asker_does_to_it_changes_nothing(self):
        for asked, handed in TOLD_LISTS:
            with self.subTest(asked.__name__, handed=handed):
                given = copy.deepcopy(handed)
                told = asked(*given)
                before = plainly(told)
                for inner in lists_within(told):
                    inner.append(STRANGE)
                    inner.reverse()
                self.assertEqual(plainly(given), plainly(handed))
                self.assertEqual(plainly(asked(*given)), before)

    def test_what_is_done_to_what_was_handed_in_changes_nothing_told(self):
        for asked, handed in TOLD_LISTS:
            with self.subTest(asked.__name__, handed=handed):
                given = copy.deepcopy(handed)
                told = asked(*given)
                before = plainly(told)
                for inner in lists_within(given):
                    inner.clear()
                self.assertEqual(plainly(told), before)
                self.assertEqual(plainly(asked(*copy.deepcopy(handed))), before)

    def test_kinds_of_lists_of_rows(self):
        for asked, handed in TOLD_ROWS:
            with self.subTest(asked.__name__, handed=handed):
                given = copy.deepcopy(handed)
                told = asked(*given)
                self.assertIs(type(told), list)
                for row in told:
                    self.assertIs(type(row), tuple)
                    self.assertEqual({type(pair) for pair in row}, {tuple})
                    self.assertEqual({type(number) for pair in row for number in pair}, {int})

    def test_kinds_of_others(self):
        for kind, cases in ((int, TOLD_NUMBERS), (bool, TOLD_TRUTHS), (tuple, TOLD_TUPLES)):
            for asked, handed in cases:
                with self.subTest(asked.__name__, handed=handed):
                    given = copy.deepcopy(handed)
                    self.assertIs(type(asked(*given)), kind)

    def test_lists_of_rows_rise(self):
        for asked, handed in TOLD_ROWS:
            with self.subTest(asked.__name__, handed=handed):
                given = copy.deepcopy(handed)
                told = asked(*given)
                self.assertEqual(told, sorted(told))


if __name__ == "__main__":
    unittest.main()
