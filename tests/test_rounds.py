import itertools
import unittest

from allfirst.errors import TooMany
from allfirst.forms import form_hour, thing_form
from allfirst.rounds import bound, is_paper, round_forms, round_hours

from helper import drawn_hours, put_by_the_words, some_forms

HUGE = 10 ** 3000
PLENTY = 10 ** 6
DRAWN = some_forms(61, 60, 3, [-1, 0, 2], 3)
ROUNDS = [DRAWN[turn:turn + 3] for turn in range(0, 60, 3)]
HOURS = drawn_hours(62, 12, 3, 9)

# Each thing waits for itself and for the other one.
PAIR = [[((0, 2), (1, 5))], [((0, 3), (1, 1))]]
SWAP = [[((1, 4),)], [((0, -1),)]]


def gone(forms, hours, times):
    for turn in range(times):
        hours = [form_hour(form, hours) for form in forms]
    return hours


def met_by_the_words(forms, times):
    """For each time the forms that are met on its way, and behind the last the forms that are told."""
    told, met = [thing_form(thing) for thing in range(len(forms))], []
    for turn in range(times):
        ways = [put_by_the_words(form, told) for form in forms]
        met += sum(ways, [])
        told = [way[-1] for way in ways]
    return met, told


class RoundHours(unittest.TestCase):
    def test_none(self):
        self.assertEqual(round_hours(PAIR, [3, -8], 0), [3, -8])

    def test_one_time(self):
        self.assertEqual(round_hours(PAIR, [0, 0], 1), [5, 3])
        self.assertEqual(round_hours(SWAP, [10, 20], 1), [24, 9])

    def test_two_times_and_more(self):
        self.assertEqual(round_hours(PAIR, [0, 0], 2), [8, 8])
        self.assertEqual(round_hours(SWAP, [10, 20], 2), [13, 23])
        self.assertEqual(round_hours(SWAP, [10, 20], 3), [27, 12])

    def test_up_to_two_hundred(self):
        self.assertEqual(round_hours([[((0, 7),)]], [1], 200), [1401])
        self.assertEqual(round_hours(SWAP, [10, 20], 200), [310, 320])
        self.assertEqual(round_hours(SWAP, [10, 20], 199), [321, 306])

    def test_below_nought_and_of_many_figures(self):
        self.assertEqual(round_hours([[((0, -HUGE),)]], [HUGE], 3), [-2 * HUGE])

    def test_twelve_things_in_a_ring(self):
        ring = [thing_form((thing + 1) % 12) for thing in range(12)]
        hours = list(range(100, 112))
        self.assertEqual(round_hours(ring, hours, 5), hours[5:] + hours[:5])
        self.assertEqual(round_hours(ring, hours, 12), hours)

    def test_drawn_rounds(self):
        for forms, hours in itertools.product(ROUNDS, HOURS):
            for times in (0, 1, 2, 3, 17):
                self.assertEqual(round_hours(forms, hours, times), gone(forms, hours, times))


class RoundForms(unittest.TestCase):
    def test_of_no_times_the_things_own_forms(self):
        self.assertEqual(round_forms(PAIR, 0, 60), [[((0, 0),)], [((1, 0),)]])
        self.assertEqual(round_forms([thing_form(0)] * 12, 0, 1), [thing_form(thing) for thing in range(12)])

    def test_of_one_time_the_round_itself(self):
        for forms in ROUNDS:
            self.assertEqual(round_forms(forms, 1, PLENTY), forms)

    def test_two_times(self):
        self.assertEqual(round_forms(PAIR, 2, 60), [[((0, 8), (1, 7))], [((0, 5), (1, 8))]])
        self.assertEqual(round_forms(SWAP, 2, 60), [[((0, 3),)], [((1, 3),)]])

    def test_in_the_order_in_which_they_are_gone(self):
        # Thing 0 goes by thing 1, which goes by thing 2: the other way round it would be another form.
        forms = [[((1, 1),)], [((2, 10),)], [((2, 100),)]]
        self.assertEqual(round_forms(forms, 2, 60), [[((2, 11),)], [((2, 110),)], [((2, 200),)]])

    def test_two_hundred_times(self):
        self.assertEqual(round_forms([[((0, 7),)]], 200, 1), [[((0, 1400),)]])
        self.assertEqual(round_forms(SWAP, 199, 1), [[((1, 301),)], [((0, 296),)]])
        forms = [[((0, 1), (1, 0)), ((2, 3),)], [((0, 2),), ((1, 1), (2, 0))], [((0, 0), (2, 1))]]
        told = round_forms(forms, 200, 60)
        for hours in HOURS:
            self.assertEqual([form_hour(form, hours) for form in told], round_hours(forms, hours, 200))

    def test_come_when_the_round_does(self):
        for forms in ROUNDS:
            for times in (0, 1, 2, 3, 4):
                told = round_forms(forms, times, PLENTY)
                for hours in HOURS:
                    self.assertEqual([form_hour(form, hours) for form in told], gone(forms, hours, times))

    def test_refused_just_where_it_is_told(self):
        for forms in ROUNDS:
            for times in (0, 1, 2, 3):
                met, told = met_by_the_words(forms, times)
                greatest = max([len(form) for form in met], default=1)
                self.assertEqual(round_forms(forms, times, greatest), told)
                self.assertEqual(round_forms(forms, times, greatest + 1), told)
                if greatest > 1:
                    self.assertRaises(TooMany, round_forms, forms, times, greatest - 1)

    def test_a_round_of_too_many_rows_gone_no_times_is_not_refused(self):
        forms = [[((0, 0),), ((1, 0),)], thing_form(1)]
        self.assertEqual(round_forms(forms, 0, 1), [thing_form(0), thing_form(1)])
        self.assertRaises(TooMany, round_forms, forms, 1, 1)
        self.assertEqual(round_forms(forms, 1, 2), forms)

    def test_refused_for_the_last_form_alone(self):
        forms = [thing_form(0), [((0, 0),), ((1, 0),)]]
        self.assertRaises(TooMany, round_forms, forms, 1, 1)
        self.assertEqual(round_forms(forms, 5, 2), forms)

    def test_refused_at_a_time_on_the_way(self):
        # The second time thing 0 goes by four rows; the third time all goes by thing 7 alone.
        either, other, last = [((3, 0),), ((4, 0),)], [((5, 0),), ((6, 0),)], thing_form(7)
        forms = [[((1, 0), (2, 0))], either, other] + [last] * 5
        self.assertEqual(round_forms(forms, 1, 2), forms)
        self.assertEqual(len(round_forms(forms, 2, 4)[0]), 4)
        self.assertEqual(round_forms(forms, 3, 4), [last] * 8)
        self.assertEqual(round_forms(forms, 200, 4), [last] * 8)
        for times in (2, 3, 200):
            self.assertRaises(TooMany, round_forms, forms, times, 3)

    def test_the_told_lists_are_apart(self):
        for times in (0, 1, 2, 3):
            told = round_forms([thing_form(0)] * 3, times, 60)
            self.assertEqual(len({id(form) for form in told}), 3)
            told[0].append(((9, 9),))
            self.assertEqual(round_forms([thing_form(0)] * 3, times, 60)[1:], told[1:])


class IsPaper(unittest.TestCase):
    def test_a_pace_that_is_just_enough_one_less_and_one_more(self):
        self.assertIs(is_paper(PAIR, [0, 0], 5), True)
        self.assertIs(is_paper(PAIR, [0, 0], 4), False)
        self.assertIs(is_paper(PAIR, [0, 0], 6), True)

    def test_each_thing(self):
        forms = [[((0, 1),)], [((1, 2),)], [((2, 3),)]]
        self.assertIs(is_paper(forms, [0, 0, 0], 3), True)
        self.assertIs(is_paper(forms, [0, 0, 0], 2), False)
        self.assertIs(is_paper([[((0, 3),)], [((1, 2),)], [((2, 1),)]], [0, 0, 0], 2), False)

    def test_hours_that_even_it_out(self):
        self.assertIs(is_paper(PAIR, [1, 0], 5), True)
        self.assertIs(is_paper(PAIR, [1, 0], 4), True)
        self.assertIs(is_paper(PAIR, [1, 0], 3), False)

    def test_a_pace_below_nought(self):
        self.assertIs(is_paper([[((0, -4),)]], [9], -4), True)
        self.assertIs(is_paper([[((0, -4),)]], [9], -5), False)

    def test_many_figures(self):
        self.assertIs(is_paper([[((0, HUGE),)]], [-HUGE], HUGE), True)
        self.assertIs(is_paper([[((0, HUGE),)]], [-HUGE], HUGE - 1), False)

    def test_drawn_rounds(self):
        for forms, hours in itertools.product(ROUNDS, HOURS):
            pace = max(form_hour(form, hours) - hour for form, hour in zip(forms, hours))
            self.assertIs(is_paper(forms, hours, pace), True)
            self.assertIs(is_paper(forms, hours, pace + 1), True)
            self.assertIs(is_paper(forms, hours, pace - 1), False)


class Bound(unittest.TestCase):
    def test_for_none_and_for_many_times(self):
        self.assertEqual(bound([1, 0], 4, [1, 0], 0), [1, 0])
        self.assertEqual(bound([1, 0], 4, [1, 0], 1), [5, 4])
        self.assertEqual(bound([1, 0], 4, [1, 0], 200), [801, 800])
        self.assertEqual(bound([1, 0], -4, [1, 0], 200), [-799, -800])

    def test_a_start_that_is_more(self):
        self.assertEqual(bound([1, 0], 4, [3, 7], 0), [8, 7])
        self.assertEqual(bound([1, 0], 4, [9, 7], 2), [17, 16])

    def test_a_start_that_is_less(self):
        self.assertEqual(bound([1, 0], 4, [-3, -7], 0), [-3, -4])
        self.assertEqual(bound([1, 0], 4, [-9, -7], 2), [2, 1])

    def test_a_start_that_is_more_for_one_and_less_for_another(self):
        self.assertEqual(bound([1, 0], 4, [-3, 7], 0), [8, 7])

    def test_many_figures(self):
        self.assertEqual(bound([HUGE], HUGE, [-HUGE], 3), [2 * HUGE])

    def test_no_thing_comes_later(self):
        for forms, hours in itertools.product(ROUNDS, HOURS[:6]):
            pace = max(form_hour(form, hours) - hour for form, hour in zip(forms, hours))
            for start, times in itertools.product(HOURS[6:], (0, 1, 2, 9, 200)):
                ends = round_hours(forms, start, times)
                for end, limit in zip(ends, bound(hours, pace, start, times)):
                    self.assertLessEqual(end, limit)


if __name__ == "__main__":
    unittest.main()
