import itertools
import unittest

from allfirst.errors import TooMany
from allfirst.forms import form_hour
from allfirst.holding import gain, holders, slack, ways
from allfirst.rows import row_hour

from helper import drawn_hours, hold_to, some_forms

HUGE = 10 ** 3000
FAR = 10 ** 6
# Few waits and hours, so that many things and rows come at the same hour.
FORMS = some_forms(51, 60, 4, [0, 1], 5)
HOURS = drawn_hours(52, 12, 5, 1)
CASES = list(itertools.product(FORMS, HOURS))

EITHER = [((0, 0),), ((1, 0),)]
BOTH = [((0, 0), (1, 0))]


def moved(hours, thing, turns):
    return [hour + turns if number == thing else hour for number, hour in enumerate(hours)]


def slack_by_the_words(form, hours, thing):
    now = form_hour(form, hours)
    if form_hour(form, moved(hours, thing, FAR)) <= now:
        return None
    turns = 0
    while form_hour(form, moved(hours, thing, turns + 1)) <= now:
        turns += 1
    return turns


def gain_by_the_words(form, hours, thing):
    now, far = form_hour(form, hours), form_hour(form, moved(hours, thing, -FAR))
    if form_hour(form, moved(hours, thing, -2 * FAR)) < far:
        return None
    return now - far


def least_sets(many, does):
    """The sets of things, as rising tuples, that do so and within which no smaller one does."""
    found = []
    for count in range(many + 1):
        for things in itertools.combinations(range(many), count):
            if does(things) and not any(set(smaller) < set(things) for smaller in found):
                found.append(things)
    return sorted(found)


def ways_by_the_words(form, hours):
    now = form_hour(form, hours)

    def does(things):
        return form_hour(form, [hour if t in things else FAR for t, hour in enumerate(hours)]) <= now

    return least_sets(len(hours), does)


def holders_by_the_words(form, hours):
    now = form_hour(form, hours)

    def does(things):
        return form_hour(form, [hour + 1 if t in things else hour for t, hour in enumerate(hours)]) == now + 1

    return least_sets(len(hours), does)


def holders_on_the_way(form, hours):
    now = form_hour(form, hours)
    done = [row for row in form if row_hour(row, hours) == now]
    return [holders_by_the_words(done[:count], hours) for count in range(1, len(done) + 1)]


class Slack(unittest.TestCase):
    def test_of_nought(self):
        self.assertEqual(slack([((0, 0),)], [5], 0), 0)
        self.assertEqual(slack(BOTH, [5, 3], 0), 0)
        self.assertEqual(slack([((0, 1), (1, 3))], [5, 3], 0), 0)

    def test_above_nought(self):
        self.assertEqual(slack(BOTH, [5, 3], 1), 2)
        self.assertEqual(slack([((0, 1), (1, 2))], [5, 3], 1), 1)

    def test_the_most_of_the_rows_that_are_done_first(self):
        form = [((0, 0), (1, 0)), ((0, 3), (2, 0))]
        self.assertEqual(slack(form, [1, 9, 9], 0), 8)
        self.assertEqual(slack(form, [9, 5, 5], 0), 0)
        self.assertEqual(slack([((0, 3), (1, 0)), ((0, 0), (2, 0))], [1, 9, 9], 0), 8)

    def test_rows_that_are_done_later_give_none(self):
        self.assertEqual(slack([((0, 0), (1, 0)), ((0, -5), (2, 0))], [4, 4, 9], 0), 0)

    def test_a_row_without_it_that_is_done_later_gives_none(self):
        self.assertEqual(slack(EITHER, [3, 9], 0), 0)

    def test_none_where_a_row_without_it_is_done_first(self):
        self.assertIsNone(slack(EITHER, [3, 3], 0))
        self.assertIsNone(slack(EITHER, [9, 3], 0))
        self.assertIsNone(slack([((0, 0), (1, 0)), ((2, 0),)], [5, 3, 5], 1))

    def test_a_thing_that_the_form_has_not(self):
        self.assertIsNone(slack(BOTH, [5, 3, 7], 2))
        self.assertIsNone(slack(BOTH, [5, 3] + [0] * 10, 11))

    def test_many_figures(self):
        self.assertEqual(slack([((0, HUGE), (1, -HUGE))], [0, 0], 1), 2 * HUGE)
        self.assertEqual(slack(BOTH, [-HUGE, HUGE], 0), 2 * HUGE)
        self.assertEqual(slack(BOTH, [-HUGE, HUGE], 1), 0)

    def test_just_as_the_words_say(self):
        for form, hours in CASES:
            for thing in range(5):
                self.assertEqual(slack(form, hours, thing), slack_by_the_words(form, hours, thing))

    def test_wider_hours(self):
        for form, hours in itertools.product(some_forms(53, 40, 3, [-3, 0, 2, 5], 4), drawn_hours(54, 10, 3, 9)):
            for thing in range(3):
                self.assertEqual(slack(form, hours, thing), slack_by_the_words(form, hours, thing))
                self.assertEqual(gain(form, hours, thing), gain_by_the_words(form, hours, thing))


class Gain(unittest.TestCase):
    def test_of_nought(self):
        self.assertEqual(gain(BOTH, [5, 5], 0), 0)
        self.assertEqual(gain(BOTH, [3, 5], 0), 0)

    def test_above_nought(self):
        self.assertEqual(gain(BOTH, [7, 5], 0), 2)
        self.assertEqual(gain([((0, 4), (1, 1))], [7, 5], 0), 5)

    def test_none_where_a_row_is_that_thing_alone(self):
        self.assertIsNone(gain([((0, 0),)], [5], 0))
        self.assertIsNone(gain(EITHER, [9, 3], 0))
        self.assertIsNone(gain([((0, 9),), ((1, 0), (2, 0))], [9, 3, 3], 0))

    def test_by_a_row_that_is_not_done_first_now(self):
        self.assertEqual(gain([((0, 0), (1, 0)), ((2, 0),)], [9, 1, 6], 0), 5)
        self.assertEqual(gain([((0, 0), (1, 0)), ((2, 0),)], [9, 8, 6], 0), 0)

    def test_a_thing_that_the_form_has_not(self):
        self.assertEqual(gain(BOTH, [5, 3, 7], 2), 0)
        self.assertEqual(gain(BOTH, [5, 3] + [0] * 10, 11), 0)

    def test_many_figures(self):
        self.assertEqual(gain([((0, HUGE), (1, -HUGE))], [0, 0], 0), 2 * HUGE)
        self.assertEqual(gain(BOTH, [-HUGE, HUGE], 1), 2 * HUGE)

    def test_just_as_the_words_say(self):
        for form, hours in CASES:
            for thing in range(5):
                self.assertEqual(gain(form, hours, thing), gain_by_the_words(form, hours, thing))

    def test_all_kinds_of_answers_are_met(self):
        for asked in (slack, gain):
            told = [asked(form, hours, thing) for form, hours in CASES for thing in range(5)]
            self.assertLess({None, 0, 1, 2}, set(told))


class Ways(unittest.TestCase):
    def test_one_row(self):
        self.assertEqual(ways(BOTH, [5, 3]), [(0, 1)])
        self.assertEqual(ways([((3, 9),)], [0, 0, 0, 0]), [(3,)])

    def test_rows_that_are_done_first_alone(self):
        self.assertEqual(ways(EITHER, [5, 3]), [(1,)])
        self.assertEqual(ways(EITHER, [3, 5]), [(0,)])
        self.assertEqual(ways(EITHER, [3, 3]), [(0,), (1,)])

    def test_a_set_with_a_smaller_one_in_it_is_left_out(self):
        form = [((0, 0), (1, 0)), ((0, 1),)]
        self.assertEqual(ways(form, [4, 5]), [(0,)])
        self.assertEqual(ways(form, [5, 5]), [(0, 1)])

    def test_two_rows_of_the_same_things(self):
        self.assertEqual(ways([((0, 0), (1, 1)), ((0, 1), (1, 0))], [3, 3]), [(0, 1)])

    def test_rising_whatever_the_waits(self):
        form = [((0, 0), (3, 0)), ((0, 1), (2, 0)), ((1, 0), (2, 1))]
        self.assertEqual(ways(form, [8, 9, 8, 9]), [(0, 2), (0, 3), (1, 2)])

    def test_many_figures(self):
        self.assertEqual(ways([((0, HUGE),), ((1, -HUGE),)], [-HUGE, HUGE]), [(0,), (1,)])
        self.assertEqual(ways([((0, HUGE),), ((1, -HUGE),)], [1 - HUGE, HUGE]), [(1,)])

    def test_just_as_the_words_say(self):
        for form, hours in CASES:
            self.assertEqual(ways(form, hours), ways_by_the_words(form, hours), (form, hours))


class Holders(unittest.TestCase):
    def test_one_row(self):
        self.assertEqual(holders(BOTH, [5, 3], 60), [(0,)])
        self.assertEqual(holders(BOTH, [5, 5], 60), [(0,), (1,)])

    def test_rows_that_are_done_first_alone(self):
        self.assertEqual(holders(EITHER, [5, 3], 60), [(1,)])
        self.assertEqual(holders(EITHER, [3, 3], 60), [(0, 1)])
        self.assertEqual(holders(EITHER, [3, 4], 60), [(0,)])

    def test_rising_and_least(self):
        form = [((0, 0), (1, 0)), ((0, 1), (2, 0)), ((1, 1), (2, 1))]
        self.assertEqual(holders(form, [3, 4, 4], 60), [(0, 1), (1, 2)])
        self.assertEqual(holders([((0, 0), (1, 0)), ((1, 1), (2, 0))], [5, 4, 5], 60), [(0, 1), (0, 2)])
        self.assertEqual(holders([((0, 0), (1, 0)), ((1, 0), (2, 0))], [5, 5, 5], 60), [(0, 2), (1,)])

    def test_many_figures(self):
        form = [((0, HUGE), (1, -HUGE))]
        self.assertEqual(holders(form, [-HUGE, HUGE], 60), [(0,), (1,)])
        self.assertEqual(holders(form, [-HUGE, HUGE - 1], 60), [(0,)])

    def test_just_as_the_words_say(self):
        for form, hours in CASES:
            self.assertEqual(holders(form, hours, 60), holders_by_the_words(form, hours), (form, hours))

    def test_each_has_a_thing_of_each_way(self):
        for form, hours in CASES:
            for holder, way in itertools.product(holders(form, hours, 60), ways(form, hours)):
                self.assertTrue(set(holder) & set(way))

    def test_refused_just_where_they_are_more(self):
        for form, hours in CASES:
            hold_to(self, holders_on_the_way(form, hours), holders, [form, hours])

    def test_refused_on_the_way_too(self):
        form = [((0, 0), (2, 0)), ((1, 0), (3, 0)), ((2, 0), (3, 0))]
        self.assertRaises(TooMany, holders, form, [7, 7, 7, 7], 3)
        self.assertEqual(holders(form, [7, 7, 7, 7], 4), [(0, 3), (1, 2), (2, 3)])

    def test_rows_that_are_done_later_are_not_looked_at(self):
        form = [((0, 1), (1, 1), (2, 1)), ((0, 2), (3, 0))]
        self.assertEqual(holders(form, [0, 0, 0, 0], 3), [(0,), (1,), (2,)])
        self.assertRaises(TooMany, holders, form, [0, 0, 0, 0], 2)
        self.assertEqual(holders([((0, 2), (3, 0)), ((0, 3), (1, 3), (2, 3))], [0, 0, 0, 0], 1), [(0,)])

    def test_as_many_as_most_are_not_refused(self):
        row = tuple((thing, 0) for thing in range(12))
        self.assertEqual(holders([row], [4] * 12, 12), [(thing,) for thing in range(12)])
        self.assertRaises(TooMany, holders, [row], [4] * 12, 11)
        self.assertEqual(holders([row], [3] * 11 + [4], 1), [(11,)])

    def test_sixty_four_are_more_than_sixty(self):
        form = [((2 * number, 0), (2 * number + 1, 0)) for number in range(6)]
        self.assertRaises(TooMany, holders, form, [0] * 12, 60)
        self.assertEqual(len(holders(form, [0] * 12, 64)), 64)
        self.assertEqual(len(holders(form, [0] * 11 + [-1], 60)), 32)


class Kinds(unittest.TestCase):
    def test_lists_of_tuples_of_numbers(self):
        for told in (ways(EITHER, [3, 3]), holders(BOTH, [5, 5], 60)):
            self.assertIs(type(told), list)
            self.assertEqual({type(things) for things in told}, {tuple})
            self.assertEqual({type(thing) for things in told for thing in things}, {int})


if __name__ == "__main__":
    unittest.main()
