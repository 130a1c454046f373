import itertools
import unittest

from allfirst.forms import form_hour, waited
from allfirst.lags import compared, lag, lag_paper, later_by

from helper import all_hours, some_forms

HUGE = 10 ** 3000
FORMS = some_forms(21, 30, 3, [-2, -1, 0, 1, 3], 4)
PAIRS = list(itertools.product(FORMS, repeat=2))
HOURS = all_hours(3, [-4, -1, 0, 2, 5])

EITHER = [((0, 0),), ((1, 0),)]
BOTH = [((0, 0), (1, 0))]


def later(one, other, hours):
    return form_hour(one, hours) - form_hour(other, hours)


def more_of_row(row, other):
    """How much more the waits of a row are than another one's, or None where it has a thing besides."""
    waits = dict(other)
    if not set(dict(row)) <= set(waits):
        return None
    return max(wait - waits[thing] for thing, wait in row)


def lag_by_the_words(one, other):
    greatest = None
    for row in other:
        mores = [more_of_row(own, row) for own in one]
        mores = [more for more in mores if more is not None]
        if not mores:
            return None
        greatest = min(mores) if greatest is None else max(greatest, min(mores))
    return greatest


class Lag(unittest.TestCase):
    def test_above_nought(self):
        self.assertEqual(lag([((0, 5),)], [((0, 2),)]), 3)
        self.assertEqual(lag([((0, 5), (1, 1))], [((0, 2), (1, 0))]), 3)

    def test_of_nought(self):
        self.assertEqual(lag(EITHER, BOTH), 0)
        self.assertEqual(lag([((0, 5),)], [((0, 5), (1, -9))]), 0)
        self.assertEqual(lag([((0, -4), (1, 3))], [((0, 9), (1, 3))]), 0)

    def test_below_nought(self):
        self.assertEqual(lag([((0, 2),)], [((0, 5),)]), -3)
        self.assertEqual(lag([((0, 2), (1, 0))], [((0, 5), (1, 1))]), -1)
        self.assertEqual(lag(waited(EITHER, -4), BOTH), -4)

    def test_none_where_a_row_has_things_besides(self):
        self.assertIsNone(lag(BOTH, EITHER))
        self.assertIsNone(lag([((0, 0),)], [((1, 0),)]))
        self.assertIsNone(lag([((0, -9), (1, -9))], [((0, 9),)]))

    def test_none_for_one_row_of_the_other_is_enough(self):
        self.assertIsNone(lag([((0, 0),)], EITHER))
        self.assertIsNone(lag([((1, 0),)], EITHER))
        self.assertIsNone(lag([((1, 0),)], [((0, 0),), ((1, 0), (2, 0))]))

    def test_a_row_with_a_thing_besides_is_passed_over(self):
        self.assertEqual(lag([((0, -50), (2, -50)), ((0, 7),)], [((0, 1), (1, 1))]), 6)
        self.assertEqual(lag([((0, 7),), ((2, -50),)], [((0, 1), (1, 1))]), 6)

    def test_the_least_over_the_rows_of_the_one(self):
        self.assertEqual(lag([((0, 4),), ((1, 2),)], BOTH), 2)
        self.assertEqual(lag([((0, 2),), ((1, 4),)], BOTH), 2)

    def test_the_greatest_over_the_rows_of_the_other(self):
        self.assertEqual(lag([((0, 4),), ((1, 2),)], EITHER), 4)
        self.assertEqual(lag([((0, 2),), ((1, 4),)], EITHER), 4)

    def test_the_greatest_over_the_things_of_a_row(self):
        self.assertEqual(lag([((0, 1), (1, 5), (2, 3))], [((0, 0), (1, 0), (2, 0))]), 5)
        self.assertEqual(lag([((0, 5), (1, 1), (2, 3))], [((0, 0), (1, 0), (2, 0))]), 5)
        self.assertEqual(lag([((0, 1), (1, 3), (2, 5))], [((0, 0), (1, 0), (2, 0))]), 5)

    def test_many_figures(self):
        self.assertEqual(lag([((0, HUGE),)], [((0, -HUGE),)]), 2 * HUGE)
        self.assertEqual(lag([((0, -HUGE),)], [((0, HUGE),)]), -2 * HUGE)
        self.assertEqual(lag([((0, HUGE + 1),)], [((0, HUGE), (1, -HUGE))]), 1)

    def test_of_the_same_form(self):
        for form in FORMS:
            self.assertEqual(lag(form, list(form)), 0)
            self.assertEqual(lag(waited(form, 7), form), 7)
            self.assertEqual(lag(waited(form, -7), form), -7)

    def test_just_as_the_words_say(self):
        for one, other in PAIRS:
            self.assertEqual(lag(one, other), lag_by_the_words(one, other), (one, other))

    def test_never_later_by_more_at_any_hours(self):
        for one, other in PAIRS[::3]:
            told = lag(one, other)
            if told is not None:
                greatest = max(later(one, other, hours) for hours in HOURS)
                self.assertLessEqual(greatest, told, (one, other))

    def test_some_hours_at_which_it_is_just_so_much(self):
        # The rows of the other one, each with the other things late, are hours enough to find it.
        for one, other in PAIRS:
            told = lag(one, other)
            probes = [[100] * 3 for row in other]
            for hours, row in zip(probes, other):
                for thing, wait in row:
                    hours[thing] = -wait
            greatest = max(later(one, other, hours) for hours in probes)
            if told is None:
                self.assertGreater(greatest, 90, (one, other))
            else:
                self.assertEqual(greatest, told, (one, other))


class LagPaper(unittest.TestCase):
    def held_to(self, one, other):
        told, paper = lag(one, other), lag_paper(one, other)
        if told is None:
            self.assertIsNone(paper, (one, other))
            return
        self.assertIs(type(paper), list)
        self.assertEqual(len(paper), len(other))
        for number, row in zip(paper, other):
            self.assertIs(type(number), int)
            self.assertIn(number, range(len(one)))
            more = more_of_row(one[number], row)
            self.assertIsNotNone(more, (one, other))
            self.assertLessEqual(more, told, (one, other))

    def test_counted_from_nought_in_the_order_of_the_other(self):
        one = [((0, 0),), ((1, 0),), ((2, 0),)]
        self.assertEqual(lag_paper(one, one), [0, 1, 2])
        self.assertEqual(lag_paper(one, [((0, 0), (3, 0)), ((1, 0), (4, 0)), ((2, 0), (5, 0))]), [0, 1, 2])
        self.assertEqual(lag_paper(one, [((1, 0), (3, 0)), ((2, 0), (4, 0))]), [1, 2])

    def test_a_row_of_the_one_that_is_too_late_is_not_told(self):
        self.assertEqual(lag_paper([((0, 9),), ((1, 0),)], BOTH), [1])
        self.assertEqual(lag_paper([((0, 0),), ((1, 9),)], BOTH), [0])
        self.assertEqual(lag_paper([((0, 1),), ((1, 0),)], BOTH), [1])

    def test_none_where_the_lag_is_none(self):
        self.assertIsNone(lag_paper(BOTH, EITHER))
        self.assertIsNone(lag_paper([((1, 0),)], EITHER))
        self.assertIsNone(lag_paper([((0, 0),)], EITHER))

    def test_many_figures(self):
        self.assertEqual(lag_paper([((0, HUGE),), ((1, HUGE - 1),)], [((0, -HUGE), (1, -HUGE))]), [1])

    def test_drawn_forms(self):
        for one, other in PAIRS:
            self.held_to(one, other)

    def test_never_later_means_a_row_under_each(self):
        for one, other in PAIRS:
            paper = lag_paper(one, other)
            if paper is not None and lag(one, other) <= 0:
                for number, row in zip(paper, other):
                    self.assertLessEqual(more_of_row(one[number], row), 0)


class LaterBy(unittest.TestCase):
    def held_to(self, one, other, turns, many):
        told, greatest = later_by(one, other, turns, many), lag_by_the_words(one, other)
        if greatest is not None and greatest < turns:
            self.assertIsNone(told, (one, other, turns))
            return
        self.assertIs(type(told), list)
        self.assertEqual(len(told), many)
        self.assertEqual({type(hour) for hour in told}, {int})
        self.assertGreaterEqual(later(one, other, told), turns, (one, other))

    def test_just_the_lag_one_more_and_one_less(self):
        for one, other in PAIRS:
            greatest = lag_by_the_words(one, other)
            if greatest is not None:
                self.assertIsNotNone(later_by(one, other, greatest, 3))
                self.assertIsNone(later_by(one, other, greatest + 1, 3))
                for turns in (greatest - 1, greatest, greatest + 1, greatest - 100, greatest + 100):
                    self.held_to(one, other, turns, 3)

    def test_a_lag_of_none_with_any_turns(self):
        found = 0
        for one, other in PAIRS:
            if lag_by_the_words(one, other) is None:
                found += 1
                for turns in (-HUGE, -100, -1, 0, 1, 100, HUGE):
                    self.assertIsNotNone(later_by(one, other, turns, 3))
                    self.held_to(one, other, turns, 3)
        self.assertGreater(found, 50)

    def test_below_nought(self):
        self.assertIsNone(later_by([((0, 2),)], [((0, 5),)], -2, 1))
        for turns in (-3, -4):
            told = later_by([((0, 2),)], [((0, 5),)], turns, 1)
            self.assertEqual(later([((0, 2),)], [((0, 5),)], told), -3)

    def test_as_many_hours_as_asked_for(self):
        for many in range(3, 13):
            for one, other in PAIRS[::17]:
                for turns in (-5, 0, 4):
                    self.held_to(one, other, turns, many)
        self.assertEqual(len(later_by(BOTH, EITHER, 3, 12)), 12)
        self.assertEqual(len(later_by([((0, 1),)], [((0, 0),)], 1, 1)), 1)

    def test_waits_of_many_figures(self):
        one, other = [((0, -HUGE), (1, HUGE)), ((2, -HUGE),)], [((0, HUGE), (1, -HUGE)), ((2, HUGE), (3, 0))]
        for turns in (-5 * HUGE, -2 * HUGE, 0, 2 * HUGE, 2 * HUGE + 1, 9 * HUGE):
            self.held_to(one, other, turns, 4)
            self.held_to(other, one, turns, 4)

    def test_low_waits_do_not_hide_the_turns(self):
        # The rows with a thing besides are done late only if the thing is later than its wait is low.
        self.held_to([((0, 0), (2, -1000)), ((1, -1000),)], [((0, 0),)], 5, 3)
        self.held_to([((0, 7),), ((1, -1000), (2, -2000))], [((0, 0),)], 7, 3)

    def test_things_of_the_other_alone(self):
        self.held_to([((0, 3),)], [((0, 0), (5, 0)), ((4, 0), (5, -8))], 3, 6)
        self.held_to([((0, 3),)], [((0, 0), (5, 0))], 3, 6)


class Compared(unittest.TestCase):
    def held_to(self, one, other, many):
        told = compared(one, other, many)
        self.assertIs(type(told), tuple)
        self.assertEqual(len(told), 2)
        earlier, later_hours = told
        for hours in told:
            if hours is not None:
                self.assertIs(type(hours), list)
                self.assertEqual(len(hours), many)
        if earlier is not None:
            self.assertLess(later(one, other, earlier), 0)
        if later_hours is not None:
            self.assertGreater(later(one, other, later_hours), 0)
        return told

    def test_the_same_forms(self):
        for form in FORMS:
            self.assertEqual(compared(form, list(form), 3), (None, None))

    def test_both_are_none_just_where_they_are_the_same(self):
        for one, other in PAIRS:
            told = self.held_to(one, other, 3)
            self.assertEqual(told == (None, None), one == other)

    def test_none_just_where_there_are_no_such_hours(self):
        for one, other in PAIRS:
            earlier, later_hours = compared(one, other, 3)
            ahead, behind = lag_by_the_words(other, one), lag_by_the_words(one, other)
            self.assertEqual(earlier is None, ahead is not None and ahead <= 0)
            self.assertEqual(later_hours is None, behind is not None and behind <= 0)

    def test_earlier_alone(self):
        earlier, later_hours = self.held_to(EITHER, BOTH, 2)
        self.assertIsNotNone(earlier)
        self.assertIsNone(later_hours)

    def test_later_alone(self):
        earlier, later_hours = self.held_to([((0, 1),)], [((0, 0),)], 5)
        self.assertIsNone(earlier)
        self.assertIsNotNone(later_hours)

    def test_by_a_single_turn_either_way(self):
        one, other = [((0, 0), (1, 1))], [((0, 1), (1, 0))]
        earlier, later_hours = self.held_to(one, other, 2)
        self.assertEqual(later(one, other, earlier), -1)
        self.assertEqual(later(one, other, later_hours), 1)

    def test_many_figures(self):
        told = self.held_to([((0, HUGE), (1, -HUGE))], [((0, -HUGE), (1, HUGE))], 12)
        self.assertNotIn(None, told)

    def test_the_two_lists_are_apart(self):
        earlier, later_hours = compared([((0, 0),)], [((1, 0),)], 2)
        self.assertIsNot(earlier, later_hours)


if __name__ == "__main__":
    unittest.main()
