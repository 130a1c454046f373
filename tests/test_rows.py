import itertools
import unittest

from allfirst.rows import joined, row_hour, shifted, thinned, under

from helper import all_hours, all_rows, parting_hours

HUGE = 10 ** 3000
ROWS = all_rows(3, [-1, 0, 2])
HOURS = all_hours(3, [-2, -1, 0, 1, 3])


class RowHour(unittest.TestCase):
    def test_one_thing(self):
        self.assertEqual(row_hour(((0, 0),), [5]), 5)
        self.assertEqual(row_hour(((0, 3),), [5]), 8)
        self.assertEqual(row_hour(((2, 1),), [50, 60, 7]), 8)

    def test_many_things_tell_the_greatest(self):
        self.assertEqual(row_hour(((0, 1), (1, 2), (2, 3)), [10, 10, 8]), 12)
        self.assertEqual(row_hour(((0, 1), (1, 2), (2, 3)), [20, 10, 8]), 21)
        self.assertEqual(row_hour(((0, 1), (1, 2), (2, 3)), [10, 10, 30]), 33)

    def test_things_that_it_has_not_are_left_out(self):
        self.assertEqual(row_hour(((1, 0), (3, 0)), [99, 1, 99, 2, 99]), 2)

    def test_below_nought(self):
        self.assertEqual(row_hour(((0, -4),), [-3]), -7)
        self.assertEqual(row_hour(((0, -4), (1, -1)), [-3, -9]), -7)

    def test_twelve_things(self):
        row = tuple((thing, -thing) for thing in range(12))
        self.assertEqual(row_hour(row, [2 * thing for thing in range(12)]), 11)

    def test_many_figures(self):
        self.assertEqual(row_hour(((0, HUGE), (1, -HUGE)), [1, 2 * HUGE + 2]), HUGE + 2)
        self.assertEqual(row_hour(((0, -HUGE),), [-HUGE]), -2 * HUGE)


class Under(unittest.TestCase):
    def test_itself(self):
        for row in ROWS + [((0, HUGE), (11, -HUGE))]:
            self.assertIs(under(row, row), True)

    def test_smaller_waits(self):
        self.assertIs(under(((0, 1),), ((0, 2),)), True)
        self.assertIs(under(((0, 2),), ((0, 1),)), False)
        self.assertIs(under(((0, -2), (1, 0)), ((0, -1), (1, 0))), True)
        self.assertIs(under(((0, -2), (1, 1)), ((0, -1), (1, 0))), False)
        self.assertIs(under(((0, HUGE),), ((0, HUGE + 1),)), True)
        self.assertIs(under(((0, HUGE + 1),), ((0, HUGE),)), False)

    def test_fewer_things(self):
        self.assertIs(under(((1, 0),), ((0, -5), (1, 0))), True)
        self.assertIs(under(((0, -5), (1, 0)), ((1, 0),)), False)
        self.assertIs(under(((1, 1),), ((0, 9), (1, 0))), False)
        self.assertIs(under(((0, -9),), ((1, 9),)), False)

    def test_under_just_where_never_done_later(self):
        for row, other in itertools.product(ROWS, repeat=2):
            if under(row, other):
                later = [h for h in HOURS if row_hour(row, h) > row_hour(other, h)]
                self.assertEqual(later, [], (row, other))
            else:
                hours = parting_hours(other, 3, 100)
                self.assertGreater(row_hour(row, hours), row_hour(other, hours), (row, other))


class Joined(unittest.TestCase):
    def test_things_of_both(self):
        self.assertEqual(joined(((0, 1),), ((1, 2),)), ((0, 1), (1, 2)))
        self.assertEqual(joined(((1, 2),), ((0, 1),)), ((0, 1), (1, 2)))
        self.assertEqual(joined(((0, 1), (11, 4)), ((2, -3), (10, 0))), ((0, 1), (2, -3), (10, 0), (11, 4)))

    def test_the_greater_wait(self):
        one, other = ((0, 1), (1, -7), (3, 0)), ((0, 4), (1, -9), (2, -5))
        told = ((0, 4), (1, -7), (2, -5), (3, 0))
        self.assertEqual(joined(one, other), told)
        self.assertEqual(joined(other, one), told)

    def test_a_wait_below_nought_of_just_one(self):
        self.assertEqual(joined(((0, -1),), ((1, -2),)), ((0, -1), (1, -2)))

    def test_many_figures(self):
        self.assertEqual(joined(((0, -HUGE),), ((0, HUGE), (1, -HUGE))), ((0, HUGE), (1, -HUGE)))

    def test_a_row_and_itself(self):
        for row in ROWS:
            self.assertEqual(joined(row, row), row)

    def test_done_when_both_are(self):
        for row, other in itertools.product(ROWS[::3], ROWS[::2]):
            told = joined(row, other)
            self.assertEqual(told, joined(other, row))
            for hours in HOURS[::4]:
                self.assertEqual(row_hour(told, hours), max(row_hour(row, hours), row_hour(other, hours)))

    def test_tells_a_row(self):
        for row, other in itertools.product(ROWS, repeat=2):
            told = joined(row, other)
            things = [thing for thing, wait in told]
            self.assertEqual(things, sorted(set(things)))
            self.assertIs(type(told), tuple)
            self.assertEqual({type(pair) for pair in told}, {tuple})


class Shifted(unittest.TestCase):
    def test_each_wait_is_so_much_more(self):
        self.assertEqual(shifted(((0, 1),), 2), ((0, 3),))
        self.assertEqual(shifted(((0, 1), (4, -1)), 2), ((0, 3), (4, 1)))

    def test_by_nought_and_below(self):
        self.assertEqual(shifted(((0, 1), (4, -1)), 0), ((0, 1), (4, -1)))
        self.assertEqual(shifted(((0, 1), (4, -1)), -3), ((0, -2), (4, -4)))

    def test_many_figures(self):
        self.assertEqual(shifted(((0, 1), (1, -HUGE)), HUGE), ((0, HUGE + 1), (1, 0)))

    def test_done_so_much_later(self):
        for row in ROWS:
            told = shifted(row, -4)
            self.assertIs(type(told), tuple)
            self.assertEqual({type(pair) for pair in told}, {tuple})
            for hours in HOURS[::5]:
                self.assertEqual(row_hour(told, hours), row_hour(row, hours) - 4)


class Thinned(unittest.TestCase):
    def test_none(self):
        self.assertEqual(thinned([]), [])

    def test_one(self):
        self.assertEqual(thinned([((3, 4),)]), [((3, 4),)])

    def test_the_example(self):
        self.assertEqual(thinned([((0, 1),), ((0, 2),)]), [((0, 1),)])
        self.assertEqual(thinned([((0, 2),), ((0, 1),)]), [((0, 1),)])

    def test_the_same_row_twice(self):
        self.assertEqual(thinned([((0, 1),), ((0, 1),)]), [((0, 1),)])
        self.assertEqual(thinned([((1, 0),), ((0, 1),), ((1, 0),)]), [((0, 1),), ((1, 0),)])

    def test_a_row_of_fewer_things_is_under(self):
        self.assertEqual(thinned([((0, 0), (1, 0)), ((1, 0),)]), [((1, 0),)])
        self.assertEqual(thinned([((0, 0), (1, 0)), ((1, 1),)]), [((0, 0), (1, 0)), ((1, 1),)])

    def test_a_later_greater_row_under_an_earlier_one(self):
        rows = [((0, -9), (1, 5)), ((0, -8), (1, 3)), ((1, 5),)]
        self.assertEqual(thinned(rows), [((0, -8), (1, 3)), ((1, 5),)])

    def test_rising_as_tuples(self):
        rows = [((2, 0),), ((1, -5), (2, -1)), ((0, 3),), ((0, 2), (1, 9)), ((0, -1), (2, -3))]
        told = [((0, -1), (2, -3)), ((0, 2), (1, 9)), ((0, 3),), ((1, -5), (2, -1)), ((2, 0),)]
        self.assertEqual(thinned(rows), told)

    def test_a_chain_leaves_the_least(self):
        rows = [((0, wait),) for wait in (5, -HUGE, 3, HUGE, -HUGE + 1)]
        self.assertEqual(thinned(rows), [((0, -HUGE),)])

    def test_waits_of_many_figures_do_not_hide_a_row(self):
        rows = [((0, -HUGE), (1, HUGE)), ((0, 0), (1, 0)), ((0, HUGE), (1, -HUGE))]
        self.assertEqual(thinned(rows[::-1]), rows)

    def test_what_was_handed_in_stays(self):
        rows = [((1, 0),), ((0, 2),), ((0, 1),), ((0, 2),)]
        thinned(rows)
        self.assertEqual(rows, [((1, 0),), ((0, 2),), ((0, 1),), ((0, 2),)])

    def test_what_is_told_is_a_list_of_its_own(self):
        for rows in ([], [((0, 1),)], [((0, 1),), ((1, 0),)]):
            told = thinned(rows)
            self.assertIs(type(told), list)
            self.assertIsNot(told, rows)
            told.append(((9, 9),))
            self.assertEqual(thinned(rows), sorted(rows))

    def test_just_as_the_words_say(self):
        family = all_rows(2, [-1, 0, 1])
        for rows in itertools.permutations(family, 3):
            told = sorted(r for r in rows if not any(o != r and under(o, r) for o in rows))
            self.assertEqual(thinned(list(rows)), told)
            self.assertEqual(thinned(list(rows) + [rows[0]]), told)

    def test_many_rows(self):
        rows = [((0, wait), (1, -wait), (2, wait % 7)) for wait in range(300)]
        above = [((0, wait + 1), (1, -wait), (2, 7), (3, 0)) for wait in range(300)]
        self.assertEqual(thinned(above + rows[::-1]), rows)


if __name__ == "__main__":
    unittest.main()
