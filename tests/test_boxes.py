import itertools
import unittest

from allfirst.boxes import earliest, keeps_earliest, keeps_latest, latest, windows
from allfirst.columns import columns_hour, thinned_columns, turned
from allfirst.errors import TooMany
from allfirst.forms import all_of, form_hour, waited
from allfirst.rows import shifted

from helper import all_by_the_words, all_hours, combined, drawn_hours, hold_to, some_forms, thinned_by_the_words

HUGE = 10 ** 3000
PLENTY = 10 ** 6
FORMS = some_forms(41, 30, 3, [-2, 0, 1, 3], 4)
LISTS = [thinned_columns(form) for form in FORMS]
HOURS = all_hours(3, [-4, -2, -1, 0, 1, 2, 4])
BOUNDS = [-3, 0, 2, 1, -1, 4, 0]
FAR = 10 ** 9


def sorted_boxes(rows):
    """The boxes that rows or columns tell at nought: each wait with the other sign."""
    return sorted(tuple((thing, -wait) for thing, wait in row) for row in rows)


def groups(forms):
    """One, two and three forms at a time, with as many bounds."""
    for turn in range(len(forms) - 3):
        for count in (1, 2, 3):
            start = turn % 4
            yield forms[turn:turn + count], BOUNDS[start:start + count]


def latest_by_the_words(forms, deadlines):
    late = [[shifted(row, -deadline) for row in form] for form, deadline in zip(forms, deadlines)]
    return [sorted_boxes(rows) for rows in all_by_the_words(late)]


def earliest_by_the_words(lists, floors):
    """The boxes of the first, of the first two lists and so on, each made anew of the columns."""
    ahead = [[shifted(column, -floor) for column in columns] for columns, floor in zip(lists, floors)]
    met = []
    for count in range(1, len(lists) + 1):
        choices = itertools.product(*ahead[:count])
        met.append(thinned_by_the_words([combined(sum(choice, ()), min) for choice in choices]))
    return [sorted_boxes(columns) for columns in met]


def are_kept(forms, deadlines, hours):
    return all(form_hour(form, hours) <= deadline for form, deadline in zip(forms, deadlines))


def are_held(lists, floors, hours):
    return all(columns_hour(columns, hours) >= floor for columns, floor in zip(lists, floors))


def nudged(box, others, steps):
    """Hours just at the box, the other things at `others`, each time one of its things so many turns off."""
    told = []
    for moved, hour in box:
        hours = [others] * 4
        for thing, own in box:
            hours[thing] = own
        hours[moved] = hour + steps
        told.append(hours)
    return told


class Keeping(unittest.TestCase):
    def test_latest_at_just_the_hour_a_turn_later_and_a_turn_earlier(self):
        self.assertIs(keeps_latest(((1, 5),), [99, 5]), True)
        self.assertIs(keeps_latest(((1, 5),), [-99, 6]), False)
        self.assertIs(keeps_latest(((1, 5),), [99, 4]), True)

    def test_earliest_at_just_the_hour_a_turn_later_and_a_turn_earlier(self):
        self.assertIs(keeps_earliest(((1, 5),), [-99, 5]), True)
        self.assertIs(keeps_earliest(((1, 5),), [-99, 6]), True)
        self.assertIs(keeps_earliest(((1, 5),), [99, 4]), False)

    def test_each_of_its_things(self):
        box = ((0, 1), (2, -3), (3, 0))
        self.assertIs(keeps_latest(box, [1, 77, -3, 0]), True)
        self.assertIs(keeps_earliest(box, [1, -77, -3, 0]), True)
        for thing in (0, 2, 3):
            hours = [1, 0, -3, 0]
            hours[thing] += 1
            self.assertIs(keeps_latest(box, hours), False)
            self.assertIs(keeps_earliest(box, hours), True)
            hours[thing] -= 2
            self.assertIs(keeps_latest(box, hours), True)
            self.assertIs(keeps_earliest(box, hours), False)

    def test_many_figures(self):
        self.assertIs(keeps_latest(((0, -HUGE),), [-HUGE]), True)
        self.assertIs(keeps_latest(((0, -HUGE),), [1 - HUGE]), False)
        self.assertIs(keeps_earliest(((0, HUGE),), [HUGE]), True)
        self.assertIs(keeps_earliest(((0, HUGE),), [HUGE - 1]), False)


class Latest(unittest.TestCase):
    def test_one_row(self):
        self.assertEqual(latest([[((0, 3), (1, -1))]], [10], 60), [((0, 7), (1, 11))])

    def test_rows_of_one_form(self):
        self.assertEqual(latest([[((0, 3), (1, -1)), ((2, 0),)]], [10], 60), [((0, 7), (1, 11)), ((2, 10),)])

    def test_rising_by_the_boxes_not_by_the_rows(self):
        form = [((0, 0), (1, 5)), ((0, 1), (1, 4)), ((0, 2), (1, 3))]
        self.assertEqual(latest([form], [0], 60), [((0, -2), (1, -3)), ((0, -1), (1, -4)), ((0, 0), (1, -5))])

    def test_two_forms_with_their_own_deadlines(self):
        told = latest([[((0, 3),)], [((0, 1),), ((1, 0),)]], [10, 7], 60)
        self.assertEqual(told, [((0, 6),), ((0, 7), (1, 7))])
        self.assertEqual(latest([[((0, 3),)], [((0, 1),), ((1, 0),)]], [7, 10], 60), [((0, 4),)])

    def test_deadlines_below_nought_and_of_many_figures(self):
        self.assertEqual(latest([[((0, 3),)]], [-2], 1), [((0, -5),)])
        self.assertEqual(latest([[((0, HUGE),)]], [-HUGE], 1), [((0, -2 * HUGE),)])
        self.assertEqual(latest([[((0, -HUGE),)]], [HUGE], 1), [((0, 2 * HUGE),)])

    def test_kept_just_where_one_of_the_boxes_is(self):
        for forms, deadlines in groups(FORMS):
            boxes = latest(forms, deadlines, PLENTY)
            for hours in HOURS[::2] + drawn_hours(3, 40, 3, 12):
                kept = any(keeps_latest(box, hours) for box in boxes)
                self.assertEqual(kept, are_kept(forms, deadlines, hours), (forms, deadlines, hours))

    def test_at_just_the_hours_of_a_box_and_a_turn_later(self):
        for forms, deadlines in groups(FORMS):
            for box in latest(forms, deadlines, PLENTY):
                for hours in nudged(box, FAR, 0) + nudged(box, FAR, -1):
                    self.assertTrue(are_kept(forms, deadlines, hours))
                for hours in nudged(box, FAR, 1):
                    self.assertFalse(are_kept(forms, deadlines, hours))

    def test_refused_as_all_of_them_would_be(self):
        for forms, deadlines in groups(FORMS):
            hold_to(self, latest_by_the_words(forms, deadlines), latest, [forms, deadlines])

    def test_refused_at_the_first_form(self):
        three = [((0, 0), (1, 5)), ((0, 1), (1, 4)), ((0, 2), (1, 3))]
        above = [((0, 2), (1, 5))]
        self.assertRaises(TooMany, latest, [three, above], [0, 0], 2)
        self.assertEqual(latest([three, above], [0, 0], 3), [((0, -2), (1, -5))])
        self.assertEqual(latest([above, three], [0, 0], 1), [((0, -2), (1, -5))])

    def test_the_deadlines_count_for_the_refusal(self):
        three = [((0, 0), (1, 5)), ((0, 1), (1, 4)), ((0, 2), (1, 3))]
        above = [((0, 2), (1, 5))]
        self.assertRaises(TooMany, latest, [above, three], [9, 0], 2)
        self.assertEqual(len(latest([above, three], [9, 0], 3)), 3)
        self.assertEqual(len(latest([above, three], [0, 9], 1)), 1)

    def test_sixty(self):
        sixty = [((0, wait), (1, -wait)) for wait in range(60)]
        self.assertEqual(latest([sixty], [0], 60), sorted_boxes(sixty))
        self.assertRaises(TooMany, latest, [sixty + [((0, 60), (1, -60))]], [0], 60)

    def test_waits_less_by_the_deadline(self):
        for forms, deadlines in groups(FORMS):
            rows = all_of([waited(form, -deadline) for form, deadline in zip(forms, deadlines)], PLENTY)
            self.assertEqual(latest(forms, deadlines, PLENTY), sorted_boxes(rows))


class Earliest(unittest.TestCase):
    def test_one_column(self):
        self.assertEqual(earliest([[((0, 3), (1, -1))]], [10], 60), [((0, 7), (1, 11))])

    def test_columns_of_one_list(self):
        self.assertEqual(earliest([[((0, 3), (1, -1)), ((2, 0),)]], [10], 60), [((0, 7), (1, 11)), ((2, 10),)])

    def test_rising_by_the_boxes_not_by_the_columns(self):
        columns = [((0, 0), (1, 5)), ((0, 1), (1, 4)), ((0, 2), (1, 3))]
        self.assertEqual(earliest([columns], [0], 60), [((0, -2), (1, -3)), ((0, -1), (1, -4)), ((0, 0), (1, -5))])

    def test_two_lists_with_their_own_floors(self):
        told = earliest([[((0, 3),)], [((0, 1),), ((1, 0),)]], [7, 10], 60)
        self.assertEqual(told, [((0, 4), (1, 10)), ((0, 9),)])
        self.assertEqual(earliest([[((0, 3),)], [((0, 1),), ((1, 0),)]], [12, 7], 60), [((0, 9),)])

    def test_floors_below_nought_and_of_many_figures(self):
        self.assertEqual(earliest([[((0, 3),)]], [-2], 1), [((0, -5),)])
        self.assertEqual(earliest([[((0, HUGE),)]], [-HUGE], 1), [((0, -2 * HUGE),)])
        self.assertEqual(earliest([[((0, -HUGE),)]], [HUGE], 1), [((0, 2 * HUGE),)])

    def test_held_just_where_one_of_the_boxes_is_kept(self):
        for lists, floors in groups(LISTS):
            boxes = earliest(lists, floors, PLENTY)
            for hours in HOURS[::2] + drawn_hours(4, 40, 3, 12):
                kept = any(keeps_earliest(box, hours) for box in boxes)
                self.assertEqual(kept, are_held(lists, floors, hours), (lists, floors, hours))

    def test_of_turned_forms(self):
        for forms, floors in groups(FORMS):
            boxes = earliest([turned(form, PLENTY) for form in forms], floors, PLENTY)
            for hours in HOURS[::9]:
                kept = any(keeps_earliest(box, hours) for box in boxes)
                held = all(form_hour(form, hours) >= floor for form, floor in zip(forms, floors))
                self.assertEqual(kept, held)

    def test_at_just_the_hours_of_a_box_and_a_turn_earlier(self):
        for lists, floors in groups(LISTS):
            for box in earliest(lists, floors, PLENTY):
                for hours in nudged(box, -FAR, 0) + nudged(box, -FAR, 1):
                    self.assertTrue(are_held(lists, floors, hours))
                for hours in nudged(box, -FAR, -1):
                    self.assertFalse(are_held(lists, floors, hours))

    def test_refused_just_where_it_is_told(self):
        for lists, floors in groups(LISTS):
            hold_to(self, earliest_by_the_words(lists, floors), earliest, [lists, floors])

    def test_refused_at_the_first_list(self):
        three = [((0, 0), (1, 5)), ((0, 1), (1, 4)), ((0, 2), (1, 3))]
        low = [((0, 0), (1, 3))]
        self.assertRaises(TooMany, earliest, [three, low], [0, 0], 2)
        self.assertEqual(earliest([three, low], [0, 0], 3), [((0, 0), (1, -3))])
        self.assertEqual(earliest([low, three], [0, 0], 1), [((0, 0), (1, -3))])

    def test_the_floors_count_for_the_refusal(self):
        three = [((0, 0), (1, 5)), ((0, 1), (1, 4)), ((0, 2), (1, 3))]
        low = [((0, 0), (1, 3))]
        self.assertRaises(TooMany, earliest, [low, three], [-9, 0], 2)
        self.assertEqual(len(earliest([low, three], [-9, 0], 3)), 3)
        self.assertEqual(len(earliest([low, three], [0, -9], 1)), 1)

    def test_sixty(self):
        sixty = [((0, wait), (1, -wait)) for wait in range(60)]
        self.assertEqual(earliest([sixty], [0], 60), sorted_boxes(sixty))
        self.assertRaises(TooMany, earliest, [sixty + [((0, 60), (1, -60))]], [0], 60)


class Windows(unittest.TestCase):
    def test_an_hour_that_is_just_both_one_more_and_one_less(self):
        self.assertEqual(windows([((0, 5),)], [((0, 5),)]), [(((0, 5),), ((0, 5),))])
        self.assertEqual(windows([((0, 5),)], [((0, 4),)]), [(((0, 5),), ((0, 4),))])
        self.assertEqual(windows([((0, 5),)], [((0, 6),)]), [])

    def test_no_common_thing(self):
        self.assertEqual(windows([((0, -5),)], [((1, 9),)]), [(((0, -5),), ((1, 9),))])

    def test_each_common_thing(self):
        late = ((0, 5), (1, 5), (3, 0))
        self.assertEqual(windows([late], [((0, 5), (1, 6))]), [])
        self.assertEqual(windows([late], [((0, 6), (1, 5))]), [])
        self.assertEqual(windows([late], [((0, 6), (2, 0))]), [])
        self.assertEqual(windows([late], [((0, 5), (1, 5), (2, 99))]), [(late, ((0, 5), (1, 5), (2, 99)))])

    def test_in_the_order_of_both_lists(self):
        late, early = [((2, 0),), ((0, 0),), ((1, 0),)], [((5, 1),), ((3, 1),), ((0, 1),)]
        told = [
            (late[0], early[0]), (late[0], early[1]), (late[0], early[2]),
            (late[1], early[0]), (late[1], early[1]),
            (late[2], early[0]), (late[2], early[1]), (late[2], early[2]),
        ]
        self.assertEqual(windows(late, early), told)

    def test_lists_of_none(self):
        self.assertEqual(windows([], []), [])
        self.assertEqual(windows([((0, 0),)], []), [])
        self.assertEqual(windows([], [((0, 0),)]), [])

    def test_many_figures(self):
        self.assertEqual(windows([((0, -HUGE),)], [((0, 1 - HUGE),)]), [])
        self.assertEqual(len(windows([((0, -HUGE),)], [((0, -HUGE),)])), 1)

    def test_just_where_some_hours_keep_both(self):
        boxes = [row for form in FORMS for row in form]
        late, early = boxes[::3], boxes[1::3]
        told = windows(late, early)
        # If any hours keep both, those do at which each thing comes at its latest hour, else at its earliest one.
        expected = []
        for one, other in itertools.product(late, early):
            hours = [dict(one).get(thing, dict(other).get(thing, 0)) for thing in range(3)]
            if keeps_latest(one, hours) and keeps_earliest(other, hours):
                expected.append((one, other))
        self.assertEqual(told, expected)
        self.assertNotIn(len(told), (0, len(late) * len(early)))

    def test_kinds(self):
        told = windows([((0, 5),)], [((1, 4),)])
        self.assertIs(type(told), list)
        self.assertIs(type(told[0]), tuple)


if __name__ == "__main__":
    unittest.main()
