import itertools
import unittest

from allfirst.columns import column_hour, columns_hour, meeting, over, thinned_columns, turned, turned_back
from allfirst.errors import TooMany
from allfirst.forms import form_hour, waited
from allfirst.rows import thinned

from helper import all_hours, all_rows, combined, drawn_hours, hold_to, over_by_the_words, some_forms
from helper import thinned_by_the_words

HUGE = 10 ** 3000
PLENTY = 10 ** 6
COLUMNS = all_rows(3, [-1, 0, 2])
HOURS = all_hours(3, [-2, -1, 0, 1, 3])
FORMS = some_forms(31, 60, 4, [-2, 0, 1, 3], 5)
WIDER = some_forms(32, 60, 5, [0, 1], 5)


def columns_by_the_words(form):
    """The columns of the first row, of the first two rows and so on, each list made anew."""
    counts = range(1, len(form) + 1)
    choices = [[combined(pairs, min) for pairs in itertools.product(*form[:count])] for count in counts]
    return [thinned_by_the_words(columns) for columns in choices]


def rows_by_the_words(columns):
    counts = range(1, len(columns) + 1)
    return [thinned([combined(pairs, max) for pairs in itertools.product(*columns[:count])]) for count in counts]


class ColumnHour(unittest.TestCase):
    def test_one_thing(self):
        self.assertEqual(column_hour(((0, 0),), [5]), 5)
        self.assertEqual(column_hour(((2, 3),), [50, 60, 7]), 10)

    def test_many_things_tell_the_least(self):
        self.assertEqual(column_hour(((0, 1), (1, 2), (2, 3)), [10, 10, 8]), 11)
        self.assertEqual(column_hour(((0, 1), (1, 2), (2, 3)), [20, 10, 30]), 12)
        self.assertEqual(column_hour(((0, 1), (1, 2), (2, 3)), [20, 10, 8]), 11)

    def test_things_that_it_has_not_are_left_out(self):
        self.assertEqual(column_hour(((1, 0), (3, 0)), [-99, 1, -99, 2, -99]), 1)

    def test_below_nought(self):
        self.assertEqual(column_hour(((0, -4), (1, -1)), [-3, -9]), -10)

    def test_many_figures(self):
        self.assertEqual(column_hour(((0, HUGE), (1, -HUGE)), [1, 2 * HUGE + 2]), HUGE + 1)
        self.assertEqual(column_hour(((0, -HUGE),), [-HUGE]), -2 * HUGE)


class ColumnsHour(unittest.TestCase):
    def test_one_column(self):
        self.assertEqual(columns_hour([((0, 1), (1, 0))], [4, 7]), 5)

    def test_the_greatest_of_the_columns(self):
        columns = [((0, 1), (1, 0)), ((2, -3),)]
        self.assertEqual(columns_hour(columns, [4, 7, 10]), 7)
        self.assertEqual(columns_hour(columns, [4, 7, 7]), 5)
        self.assertEqual(columns_hour(columns, [-4, -7, -9]), -7)

    def test_many_figures(self):
        columns = [((0, HUGE),), ((1, -HUGE),)]
        self.assertEqual(columns_hour(columns, [0, 3 * HUGE]), 2 * HUGE)
        self.assertEqual(columns_hour(columns, [0, 1]), HUGE)


class Over(unittest.TestCase):
    def test_itself(self):
        for column in COLUMNS + [((0, HUGE), (11, -HUGE))]:
            self.assertIs(over(column, column), True)

    def test_greater_waits(self):
        self.assertIs(over(((0, 2),), ((0, 1),)), True)
        self.assertIs(over(((0, 1),), ((0, 2),)), False)
        self.assertIs(over(((0, 2), (1, 0)), ((0, 1), (1, 0))), True)
        self.assertIs(over(((0, 2), (1, 0)), ((0, 1), (1, 1))), False)
        self.assertIs(over(((0, HUGE + 1),), ((0, HUGE),)), True)
        self.assertIs(over(((0, HUGE),), ((0, HUGE + 1),)), False)

    def test_fewer_things(self):
        self.assertIs(over(((1, 0),), ((0, 5), (1, 0))), True)
        self.assertIs(over(((0, 5), (1, 0)), ((1, 0),)), False)
        self.assertIs(over(((1, 0),), ((0, -9), (1, 1))), False)
        self.assertIs(over(((0, 9),), ((1, -9),)), False)

    def test_over_just_where_never_done_earlier(self):
        for column, other in itertools.product(COLUMNS, repeat=2):
            told = over(column, other)
            self.assertIs(told, over_by_the_words(column, other))
            if told:
                earlier = [h for h in HOURS if column_hour(column, h) < column_hour(other, h)]
                self.assertEqual(earlier, [], (column, other))
            else:
                hours = [-100] * 3
                for thing, wait in other:
                    hours[thing] = -wait
                self.assertLess(column_hour(column, hours), column_hour(other, hours), (column, other))


class ThinnedColumns(unittest.TestCase):
    def test_none_and_one(self):
        self.assertEqual(thinned_columns([]), [])
        self.assertEqual(thinned_columns([((3, 4),)]), [((3, 4),)])

    def test_the_greater_wait_stays(self):
        self.assertEqual(thinned_columns([((0, 1),), ((0, 2),)]), [((0, 2),)])
        self.assertEqual(thinned_columns([((0, 2),), ((0, 1),)]), [((0, 2),)])

    def test_the_same_column_twice(self):
        self.assertEqual(thinned_columns([((0, 1),), ((0, 1),)]), [((0, 1),)])
        self.assertEqual(thinned_columns([((1, 0),), ((0, 1),), ((1, 0),)]), [((0, 1),), ((1, 0),)])

    def test_a_column_of_fewer_things_is_over(self):
        self.assertEqual(thinned_columns([((0, 0), (1, 0)), ((1, 0),)]), [((1, 0),)])
        self.assertEqual(thinned_columns([((0, 0), (1, 0)), ((1, -1),)]), [((0, 0), (1, 0)), ((1, -1),)])

    def test_handed_in_not_in_order(self):
        columns = [((2, 0),), ((1, -5), (2, 1)), ((0, 3),), ((0, 4), (1, 9)), ((0, 5), (2, 3))]
        told = [((0, 3),), ((0, 4), (1, 9)), ((0, 5), (2, 3)), ((1, -5), (2, 1)), ((2, 0),)]
        self.assertEqual(thinned_columns(columns), told)
        self.assertEqual(thinned_columns(columns[::-1]), told)

    def test_rising_by_the_waits_as_they_are(self):
        columns = [((0, wait), (1, -wait)) for wait in range(-4, 5)]
        self.assertEqual(thinned_columns(columns[::-1]), columns)

    def test_many_figures(self):
        columns = [((0, wait),) for wait in (5, -HUGE, 3, HUGE, HUGE - 1)]
        self.assertEqual(thinned_columns(columns), [((0, HUGE),)])

    def test_just_as_the_words_say(self):
        family = all_rows(2, [-1, 0, 1])
        for columns in itertools.permutations(family, 3):
            told = thinned_by_the_words(columns)
            self.assertEqual(thinned_columns(list(columns)), told)
            self.assertEqual(thinned_columns(list(columns) + [columns[0]]), told)


class Turned(unittest.TestCase):
    def test_one_thing(self):
        self.assertEqual(turned([((3, -4),)], 1), [((3, -4),)])
        self.assertEqual(turned_back([((3, -4),)], 1), [((3, -4),)])

    def test_one_row(self):
        row = ((0, 1), (1, -2), (4, 0))
        columns = [((0, 1),), ((1, -2),), ((4, 0),)]
        self.assertEqual(turned([row], 60), columns)
        self.assertEqual(turned_back(columns, 60), [row])

    def test_one_column(self):
        column = ((0, 1), (1, -2), (4, 0))
        rows = [((0, 1),), ((1, -2),), ((4, 0),)]
        self.assertEqual(turned(rows, 60), [column])
        self.assertEqual(turned_back([column], 60), rows)

    def test_two_rows_with_a_thing_in_both(self):
        form = [((0, 0), (1, 5)), ((0, 2), (2, 0))]
        columns = [((0, 0),), ((0, 2), (1, 5)), ((1, 5), (2, 0))]
        self.assertEqual(turned(form, 60), columns)
        self.assertEqual(turned_back(columns, 60), form)

    def test_at_drawn_hours_both_come_alike(self):
        for form in FORMS:
            columns = turned(form, PLENTY)
            for hours in drawn_hours(7, 40, 4, 9):
                self.assertEqual(columns_hour(columns, hours), form_hour(form, hours), form)

    def test_back_at_drawn_hours_both_come_alike(self):
        for form in FORMS:
            # Any rows thinned as columns are a list of columns too.
            columns = thinned_columns(form)
            told = turned_back(columns, PLENTY)
            self.assertEqual(thinned(told), told)
            for hours in drawn_hours(8, 40, 4, 9):
                self.assertEqual(form_hour(told, hours), columns_hour(columns, hours), columns)

    def test_turned_and_turned_back_it_is_the_same(self):
        for form in FORMS:
            self.assertEqual(turned_back(turned(form, PLENTY), PLENTY), form)
            columns = thinned_columns(form)
            self.assertEqual(turned(turned_back(columns, PLENTY), PLENTY), columns)

    def test_it_is_its_own_thinned_list(self):
        for form in FORMS:
            columns = turned(form, PLENTY)
            self.assertEqual(thinned_columns(columns), columns)

    def test_many_figures(self):
        form = [((0, -HUGE), (1, HUGE)), ((0, HUGE), (1, -HUGE))]
        columns = [((0, -HUGE),), ((0, HUGE), (1, HUGE)), ((1, -HUGE),)]
        self.assertEqual(turned(form, 60), columns)
        self.assertEqual(turned_back(columns, 60), form)

    def test_waiting_first_or_last(self):
        for form in FORMS:
            late = [tuple((thing, wait + 5) for thing, wait in column) for column in turned(form, PLENTY)]
            self.assertEqual(turned(waited(form, 5), PLENTY), late)


class TurnedTooMany(unittest.TestCase):
    def test_the_first_row_alone(self):
        form = [((0, 0), (1, 0), (2, 0)), ((0, 1),)]
        self.assertRaises(TooMany, turned, form, 2)
        self.assertEqual(turned(form, 3), [((0, 0),), ((0, 1), (1, 0)), ((0, 1), (2, 0))])
        self.assertRaises(TooMany, turned, form[:1], 2)
        self.assertEqual(len(turned(form[:1], 3)), 3)

    def test_the_first_column_alone(self):
        columns = [((0, 0), (1, 0), (2, 0)), ((0, -1),)]
        self.assertRaises(TooMany, turned_back, columns, 2)
        self.assertEqual(len(turned_back(columns, 3)), 3)

    def test_on_the_way_more_than_at_the_end(self):
        form = [((0, 0), (2, 0)), ((1, 0), (3, 0)), ((2, 0), (3, 0))]
        columns = [((0, 0), (3, 0)), ((1, 0), (2, 0)), ((2, 0), (3, 0))]
        self.assertRaises(TooMany, turned, form, 3)
        self.assertEqual(turned(form, 4), columns)

    def test_back_on_the_way_more_than_at_the_end(self):
        columns = [((0, 0), (2, 0)), ((1, 0), (3, 0)), ((2, 0), (3, 0))]
        form = [((0, 0), (3, 0)), ((1, 0), (2, 0)), ((2, 0), (3, 0))]
        self.assertRaises(TooMany, turned_back, columns, 3)
        self.assertEqual(turned_back(columns, 4), form)

    def test_what_is_thinned_away_does_not_count(self):
        form = [((0, 0), (1, 5)), ((0, 2), (1, 3))]
        self.assertEqual(turned(form, 3), [((0, 0),), ((0, 2), (1, 5)), ((1, 3),)])

    def test_just_where_it_is_told(self):
        for form in FORMS + WIDER:
            hold_to(self, columns_by_the_words(form), turned, [form])
            columns = thinned_columns(form)
            hold_to(self, rows_by_the_words(columns), turned_back, [columns])

    def test_sixty(self):
        form = [((2 * number, 0), (2 * number + 1, 0)) for number in range(5)] + [((10, 0), (11, 0))]
        self.assertRaises(TooMany, turned, form, 60)
        self.assertEqual(len(turned(form, 64)), 64)
        self.assertRaises(TooMany, turned, form, 63)
        self.assertEqual(len(turned(form[:5], 60)), 32)
        sixty = [((0, wait), (1, -wait)) for wait in range(59)]
        columns = turned(sixty, 60)
        self.assertEqual(len(columns), 60)
        self.assertEqual(turned_back(columns, 60), sixty)
        self.assertRaises(TooMany, turned, sixty, 59)
        self.assertRaises(TooMany, turned_back, columns, 58)


class Meeting(unittest.TestCase):
    def test_the_least_thing_that_meets(self):
        self.assertEqual(meeting(((0, 0), (1, 0), (2, 0)), ((0, 0), (1, 0), (2, 0))), 0)
        self.assertEqual(meeting(((0, 0), (1, 0), (2, 0)), ((0, 1), (1, 0), (2, -5))), 1)
        self.assertEqual(meeting(((0, 9), (1, 0), (2, 0)), ((1, 1), (2, -5), (3, 0))), 2)

    def test_a_wait_that_is_just_the_same_one_more_and_one_less(self):
        self.assertEqual(meeting(((4, 3),), ((4, 3),)), 4)
        self.assertEqual(meeting(((4, 3),), ((4, 2),)), 4)
        self.assertIsNone(meeting(((4, 3),), ((4, 4),)))

    def test_no_common_thing(self):
        self.assertIsNone(meeting(((0, 9), (2, 9)), ((1, -9), (3, -9))))

    def test_many_figures(self):
        self.assertEqual(meeting(((0, HUGE), (1, -HUGE)), ((0, HUGE + 1), (1, -HUGE))), 1)
        self.assertIsNone(meeting(((0, -HUGE),), ((0, 1 - HUGE),)))

    def test_none_just_where_the_column_may_be_later(self):
        for row, column in itertools.product(COLUMNS, repeat=2):
            told = meeting(row, column)
            both = [t for t, wait in row if t in dict(column) and dict(column)[t] <= wait]
            self.assertEqual(told, min(both, default=None))

    def test_each_row_and_each_column_of_a_form_meet(self):
        for form in FORMS:
            for row, column in itertools.product(form, turned(form, PLENTY)):
                thing = meeting(row, column)
                self.assertIs(type(thing), int)
                self.assertLessEqual(dict(column)[thing], dict(row)[thing])


if __name__ == "__main__":
    unittest.main()
