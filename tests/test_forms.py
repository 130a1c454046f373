import itertools
import unittest

from allfirst.errors import TooMany
from allfirst.forms import all_of, first_of, form_hour, put_into, thing_form, waited
from allfirst.rows import thinned

from helper import all_by_the_words, all_hours, all_rows, first_by_the_words, hold_to, parting_hours
from helper import put_by_the_words, some_forms

HUGE = 10 ** 3000
PLENTY = 10 ** 6
HOURS = all_hours(3, [-3, -1, 0, 2, 7])
FORMS = some_forms(11, 40, 3, [-2, -1, 0, 1, 3], 5)


def is_form(told):
    return type(told) is list and told != [] and thinned(told) == told


class FormHour(unittest.TestCase):
    def test_one_row(self):
        self.assertEqual(form_hour([((0, 1), (1, 0))], [4, 7]), 7)

    def test_the_least_of_the_rows(self):
        form = [((0, 1), (1, 0)), ((2, -3),)]
        self.assertEqual(form_hour(form, [4, 7, 10]), 7)
        self.assertEqual(form_hour(form, [4, 7, 9]), 6)
        self.assertEqual(form_hour(form, [-4, -7, 9]), -3)

    def test_many_figures(self):
        self.assertEqual(form_hour([((0, HUGE),), ((1, -HUGE),)], [0, 3 * HUGE]), HUGE)
        self.assertEqual(form_hour([((0, HUGE),), ((1, -HUGE),)], [0, 1]), 1 - HUGE)


class ThingForm(unittest.TestCase):
    def test_the_thing_with_the_wait_nought(self):
        for thing in range(12):
            self.assertEqual(thing_form(thing), [((thing, 0),)])

    def test_comes_when_the_thing_does(self):
        self.assertEqual(form_hour(thing_form(1), [4, -6, 9]), -6)


class Waited(unittest.TestCase):
    def test_each_row_is_shifted(self):
        form = [((0, 1), (1, 0)), ((2, -3),)]
        self.assertEqual(waited(form, 4), [((0, 5), (1, 4)), ((2, 1),)])
        self.assertEqual(waited(form, -4), [((0, -3), (1, -4)), ((2, -7),)])
        self.assertEqual(waited(form, 0), form)
        self.assertEqual(waited(thing_form(3), HUGE), [((3, HUGE),)])

    def test_comes_so_much_later(self):
        for form in FORMS:
            for wait in (-7, 0, 5):
                told = waited(form, wait)
                self.assertTrue(is_form(told))
                for hours in HOURS[::9]:
                    self.assertEqual(form_hour(told, hours), form_hour(form, hours) + wait)


class FirstAndAll(unittest.TestCase):
    def test_of_one_form(self):
        for form in FORMS:
            self.assertEqual(first_of([form], 60), form)
            self.assertEqual(all_of([form], 60), form)

    def test_of_things(self):
        things = [thing_form(2), thing_form(0), thing_form(1)]
        self.assertEqual(first_of(things, 60), [((0, 0),), ((1, 0),), ((2, 0),)])
        self.assertEqual(all_of(things, 60), [((0, 0), (1, 0), (2, 0))])

    def test_of_twelve_things(self):
        things = [thing_form(thing) for thing in range(12)]
        self.assertEqual(first_of(things, 12), [((thing, 0),) for thing in range(12)])
        self.assertEqual(all_of(things, 1), [tuple((thing, 0) for thing in range(12))])

    def test_a_thing_and_the_same_that_waits(self):
        one, other = thing_form(0), waited(thing_form(0), 3)
        self.assertEqual(first_of([one, other], 60), [((0, 0),)])
        self.assertEqual(all_of([one, other], 60), [((0, 3),)])

    def test_a_row_under_another_form_is_left_out(self):
        two = [((0, 0), (1, 0))]
        self.assertEqual(first_of([two, thing_form(1)], 60), [((1, 0),)])
        self.assertEqual(all_of([two, thing_form(1)], 60), [((0, 0), (1, 0))])

    def test_all_of_two_firsts(self):
        one, other = [((0, 0),), ((1, 0),)], [((0, 1),), ((2, 0),)]
        self.assertEqual(all_of([one, other], 60), [((0, 0), (2, 0)), ((0, 1),), ((1, 0), (2, 0))])

    def test_the_least_and_the_greatest_at_all_hours(self):
        for one, two, three in zip(FORMS, FORMS[1:], FORMS[2:]):
            forms = [one, two, three]
            first, both = first_of(forms, PLENTY), all_of(forms, PLENTY)
            self.assertTrue(is_form(first))
            self.assertTrue(is_form(both))
            for hours in HOURS[::3]:
                own = [form_hour(form, hours) for form in forms]
                self.assertEqual(form_hour(first, hours), min(own))
                self.assertEqual(form_hour(both, hours), max(own))

    def test_many_figures(self):
        one, other = [((0, HUGE), (1, -HUGE))], [((0, -HUGE), (1, HUGE))]
        self.assertEqual(first_of([one, other], 2), [((0, -HUGE), (1, HUGE)), ((0, HUGE), (1, -HUGE))])
        self.assertEqual(all_of([one, other], 2), [((0, HUGE), (1, HUGE))])


class PutInto(unittest.TestCase):
    def test_things_into_a_form(self):
        for form in FORMS:
            self.assertEqual(put_into(form, [thing_form(0), thing_form(1), thing_form(2)], 60), form)

    def test_one_thing(self):
        form = [((0, 2), (1, -5)), ((1, -1),)]
        self.assertEqual(put_into(thing_form(0), [form], 60), form)
        self.assertEqual(put_into([((1, 3),)], [thing_form(4), form], 60), [((0, 5), (1, -2)), ((1, 2),)])

    def test_things_given_other_numbers(self):
        form = [((0, 1), (1, 2)), ((2, 3),)]
        forms = [thing_form(5), thing_form(4), thing_form(0)]
        self.assertEqual(put_into(form, forms, 60), [((0, 3),), ((4, 2), (5, 1))])

    def test_rows_that_meet_in_one_thing(self):
        form = [((0, 1), (1, 2)), ((2, 3),)]
        self.assertEqual(put_into(form, [thing_form(7)] * 3, 60), [((7, 2),)])

    def test_more_forms_than_things(self):
        self.assertEqual(put_into([((0, 1),)], [thing_form(1), thing_form(2), thing_form(3)], 60), [((1, 1),)])

    def test_a_first_in_an_all(self):
        form = [((0, 0), (1, -1))]
        forms = [[((0, 0),), ((1, 0),)], [((0, 4),), ((2, 0),)]]
        told = [((0, 0), (2, -1)), ((0, 3),), ((1, 0), (2, -1))]
        self.assertEqual(put_into(form, forms, 60), told)

    def test_comes_at_the_hours_of_what_was_put_in(self):
        for turn, form in enumerate(FORMS):
            forms = [FORMS[(turn + step) % len(FORMS)] for step in (3, 5, 8)]
            told = put_into(form, forms, PLENTY)
            self.assertTrue(is_form(told))
            for hours in HOURS[::7]:
                within = [form_hour(put, hours) for put in forms]
                self.assertEqual(form_hour(told, hours), form_hour(form, within))


class OneListForOneFunction(unittest.TestCase):
    def test_each_part_hours_tell_forms_apart(self):
        family = all_rows(2, [-1, 0, 1])
        forms = []
        for row, other in itertools.combinations_with_replacement(family, 2):
            if thinned([row, other]) not in forms:
                forms.append(thinned([row, other]))
        probes = [parting_hours(row, 2, 50) for row in family]
        seen = [tuple(form_hour(form, hours) for hours in probes) for form in forms]
        self.assertEqual(len(set(seen)), len(forms))

    def test_in_whatever_order(self):
        forms = FORMS[:4]
        for order in itertools.permutations(forms):
            self.assertEqual(first_of(list(order), PLENTY), first_of(forms, PLENTY))
            self.assertEqual(all_of(list(order), PLENTY), all_of(forms, PLENTY))

    def test_one_from_the_other(self):
        for a, b, c in zip(FORMS, FORMS[1:], FORMS[2:]):
            either = all_of([a, first_of([b, c], PLENTY)], PLENTY)
            self.assertEqual(either, first_of([all_of([a, b], PLENTY), all_of([a, c], PLENTY)], PLENTY))
            both = first_of([a, all_of([b, c], PLENTY)], PLENTY)
            self.assertEqual(both, all_of([first_of([a, b], PLENTY), first_of([a, c], PLENTY)], PLENTY))

    def test_what_adds_nothing(self):
        for a, b in zip(FORMS, FORMS[1:]):
            self.assertEqual(first_of([a, a], PLENTY), a)
            self.assertEqual(all_of([a, a], PLENTY), a)
            self.assertEqual(first_of([a, all_of([a, b], PLENTY)], PLENTY), a)
            self.assertEqual(all_of([a, first_of([a, b], PLENTY)], PLENTY), a)

    def test_waiting_first_or_last(self):
        for a, b in zip(FORMS, FORMS[1:]):
            late = [waited(a, -5), waited(b, -5)]
            self.assertEqual(first_of(late, PLENTY), waited(first_of([a, b], PLENTY), -5))
            self.assertEqual(all_of(late, PLENTY), waited(all_of([a, b], PLENTY), -5))
            self.assertEqual(waited(waited(a, 7), -7), a)

    def test_put_in_twice_or_at_once(self):
        for turn, form in enumerate(FORMS[:10]):
            outer, inner = FORMS[turn + 1:turn + 4], FORMS[turn + 4:turn + 7]
            at_once = [put_into(put, inner, PLENTY) for put in outer]
            self.assertEqual(put_into(put_into(form, outer, PLENTY), inner, PLENTY), put_into(form, at_once, PLENTY))

    def test_made_by_hand_of_its_rows(self):
        for form in FORMS:
            rows = [all_of([waited(thing_form(t), w) for t, w in row], PLENTY) for row in form]
            self.assertEqual(first_of(rows[::-1], PLENTY), form)


# Three rows none of which lies under another, one that lies under all three, one over all three.
THREE = [((0, 0), (1, 5)), ((0, 1), (1, 4)), ((0, 2), (1, 3))]
BELOW = [((0, 0), (1, 0))]
ABOVE = [((0, 2), (1, 5))]
SINGLES = [[row] for row in THREE]


class TooManyRows(unittest.TestCase):
    def refused(self, made, *handed):
        self.assertRaises(TooMany, made, *handed)

    def test_of_one_form(self):
        for made in (first_of, all_of):
            self.assertEqual(made([THREE], 3), THREE)
            self.refused(made, [THREE], 2)
            self.refused(made, [THREE], 1)

    def test_first_of_the_first_one_alone(self):
        self.refused(first_of, [THREE, BELOW], 2)
        self.assertEqual(first_of([THREE, BELOW], 3), BELOW)

    def test_first_of_a_later_one_alone_is_not_looked_at(self):
        self.assertEqual(first_of([BELOW, THREE], 1), BELOW)

    def test_first_of_the_first_few(self):
        self.refused(first_of, SINGLES + [BELOW], 2)
        self.assertEqual(first_of(SINGLES + [BELOW], 3), BELOW)
        self.refused(first_of, SINGLES[:2] + [BELOW, SINGLES[2]], 1)
        self.assertEqual(first_of(SINGLES[:2] + [BELOW, SINGLES[2]], 2), BELOW)
        self.assertEqual(first_of([BELOW] + SINGLES, 1), BELOW)

    def test_first_of_all_of_the_list(self):
        self.refused(first_of, SINGLES, 2)
        self.assertEqual(first_of(SINGLES, 3), THREE)

    def test_all_of_the_first_one_alone(self):
        self.refused(all_of, [THREE, ABOVE], 2)
        self.assertEqual(all_of([THREE, ABOVE], 3), ABOVE)

    def test_all_of_a_later_one_alone_is_not_looked_at(self):
        self.assertEqual(all_of([ABOVE, THREE], 1), ABOVE)

    def test_all_of_the_first_few(self):
        one, other = [((0, 0),), ((1, 0),)], [((2, 0),), ((3, 0),)]
        over = [((0, 9), (1, 9), (2, 9), (3, 9))]
        self.refused(all_of, [one, other, over], 3)
        self.assertEqual(all_of([one, other, over], 4), over)
        self.refused(all_of, [one, over, other], 1)
        self.assertEqual(all_of([one, over, other], 2), over)
        self.assertEqual(all_of([over, one, other], 1), over)

    def test_all_of_all_of_the_list(self):
        one, other = [((0, 0),), ((1, 0),)], [((2, 0),), ((3, 0),)]
        told = [((0, 0), (2, 0)), ((0, 0), (3, 0)), ((1, 0), (2, 0)), ((1, 0), (3, 0))]
        self.refused(all_of, [one, other], 3)
        self.assertEqual(all_of([one, other], 4), told)

    def test_rows_that_are_thinned_away_do_not_count(self):
        one, other = [((0, 0),), ((1, 0),)], [((0, 1),), ((1, 1),)]
        self.assertEqual(all_of([one, other], 2), other)
        self.assertEqual(first_of([one, other], 2), one)

    def test_sixty(self):
        sixty = [((0, wait), (1, -wait)) for wait in range(60)]
        more = [((0, 60), (1, -60))]
        for made in (first_of, all_of):
            self.assertEqual(made([sixty], 60), sixty)
            self.refused(made, [sixty + more], 60)
        self.assertEqual(first_of([sixty, sixty], 60), sixty)
        self.assertEqual(first_of([sixty[:59], sixty[59:]], 60), sixty)
        self.refused(first_of, [sixty, more], 60)
        self.assertEqual(all_of([sixty, sixty], 60), sixty)

    def test_put_in_pair_by_pair(self):
        both = [((0, 0), (1, 0))]
        self.refused(put_into, both, [THREE, ABOVE], 2)
        self.assertEqual(put_into(both, [THREE, ABOVE], 3), ABOVE)
        self.assertEqual(put_into(both, [ABOVE, THREE], 1), ABOVE)

    def test_put_in_the_first_two_pairs(self):
        three = [((0, 0), (1, 0), (2, 0))]
        one, other = [((0, 0),), ((1, 0),)], [((2, 0),), ((3, 0),)]
        over = [((0, 9), (1, 9), (2, 9), (3, 9))]
        self.refused(put_into, three, [one, other, over], 3)
        self.assertEqual(put_into(three, [one, other, over], 4), over)
        self.assertEqual(put_into(three, [over, one, other], 1), over)

    def test_put_in_waiting_so_much_more(self):
        # Without its wait the second pair's form would make no row more than the first one's.
        self.assertEqual(put_into([((0, 0), (1, 0))], [ABOVE, THREE], 1), ABOVE)
        self.refused(put_into, [((0, 0), (1, 9))], [ABOVE, THREE], 1)
        self.assertEqual(put_into([((0, 0), (1, 9))], [ABOVE, THREE], 3), waited(THREE, 9))
        self.assertEqual(put_into([((0, 9), (1, 0))], [ABOVE, THREE], 1), waited(ABOVE, 9))

    def test_put_in_each_row(self):
        rows = [((0, 0),), ((1, 0),), ((2, 0),)]
        self.refused(put_into, rows, [BELOW, THREE, BELOW], 2)
        self.refused(put_into, rows, [BELOW, BELOW, THREE], 2)
        self.refused(put_into, rows, [THREE, BELOW, BELOW], 2)
        self.assertEqual(put_into(rows, [BELOW, THREE, BELOW], 3), BELOW)

    def test_put_in_then_the_first_of_the_rows(self):
        rows = [((0, 0),), ((1, 0),), ((2, 0),), ((3, 0),)]
        self.refused(put_into, rows, SINGLES + [BELOW], 2)
        self.assertEqual(put_into(rows, SINGLES + [BELOW], 3), BELOW)
        self.assertEqual(put_into(rows, [BELOW] + SINGLES, 1), BELOW)
        self.refused(put_into, rows[:3], SINGLES, 2)
        self.assertEqual(put_into(rows[:3], SINGLES, 3), THREE)

    def test_put_in_and_not_used(self):
        self.assertEqual(put_into([((1, 4),)], [THREE, BELOW, THREE], 1), waited(BELOW, 4))

    def test_the_form_itself_is_not_looked_at(self):
        self.assertEqual(put_into(THREE, [thing_form(6), thing_form(6)], 1), [((6, 3),)])

    def test_a_long_walk_is_refused_at_once(self):
        one = [((0, wait), (1, -wait)) for wait in range(60)]
        other = [((2, wait), (3, -wait)) for wait in range(60)]
        self.refused(all_of, [one, other], 60)
        self.assertEqual(len(all_of([one, other[:1]], 60)), 60)


class TooManyJustWhereItIsTold(unittest.TestCase):
    def test_the_first_and_all(self):
        for turn in range(len(FORMS) - 4):
            for count in (1, 2, 3, 4):
                forms = FORMS[turn:turn + count]
                hold_to(self, first_by_the_words(forms), first_of, [forms])
                hold_to(self, all_by_the_words(forms), all_of, [forms])

    def test_what_is_put_in(self):
        for turn in range(len(FORMS) - 4):
            form, forms = FORMS[turn], FORMS[turn + 1:turn + 4]
            hold_to(self, put_by_the_words(form, forms), put_into, [form, forms])


if __name__ == "__main__":
    unittest.main()
