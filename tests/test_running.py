import itertools
import unittest

from allfirst.errors import NoPlan
from allfirst.looking import looked
from allfirst.plan import Book, Plan
from allfirst.running import hours_of, told_hour

from helper import drawn_book, drawn_hours, fields

HUGE = 10 ** 3000
BOTH = Plan("both", ["a", "b"], [("c", "all", ((0, 3), (1, -2)))])
EITHER = Plan("either", ["a", "b"], [("c", "first", ((0, 3), (1, -2)))])


def grown(book, name, hours):
    """The hours of all things of a plan, each asked for backwards from its row."""
    plan = [plan for plan in book.plans if plan.name == name][0]

    def hour(thing):
        if thing < len(plan.givens):
            return hours[thing]
        made, how, items = plan.rows[thing - len(plan.givens)]
        ends = [hour(other) + wait for other, wait in items]
        if how in ("all", "first"):
            return sorted(ends)[-1 if how == "all" else 0]
        return grown(book, how, ends)[-1]

    return [hour(thing) for thing in range(len(plan.givens) + len(plan.rows))]


class HoursOf(unittest.TestCase):
    def test_all(self):
        self.assertEqual(hours_of(Book([BOTH]), "both", [10, 10]), [10, 10, 13])
        self.assertEqual(hours_of(Book([BOTH]), "both", [10, 20]), [10, 20, 18])

    def test_first(self):
        self.assertEqual(hours_of(Book([EITHER]), "either", [10, 10]), [10, 10, 8])
        self.assertEqual(hours_of(Book([EITHER]), "either", [10, 20]), [10, 20, 13])

    def test_made_things_in_the_order_of_their_rows(self):
        rows = [("c", "all", ((0, 1), (1, 1))), ("d", "first", ((2, 5), (0, 9))), ("e", "all", ((3, 0), (2, 0)))]
        book = Book([Plan("one", ["a", "b"], rows)])
        self.assertEqual(hours_of(book, "one", [0, 4]), [0, 4, 5, 9, 9])
        self.assertEqual(hours_of(book, "one", [4, 0]), [4, 0, 5, 10, 10])

    def test_a_thing_in_several_items(self):
        book = Book([Plan("one", ["a"], [("b", "all", ((0, 1), (0, 7), (0, 3))), ("c", "first", ((0, 1), (0, -7)))])])
        self.assertEqual(hours_of(book, "one", [10]), [10, 17, 3])

    def test_part_with_the_items_in_order(self):
        user = Plan("user", ["x", "y"], [("m", "both", ((1, 100), (0, 0)))])
        self.assertEqual(hours_of(Book([BOTH, user]), "user", [5, 1]), [5, 1, 104])
        self.assertEqual(hours_of(Book([BOTH, user]), "user", [500, 1]), [500, 1, 498])

    def test_a_part_tells_its_last_made_thing(self):
        part = Plan("part1", ["a"], [("b", "all", ((0, 1),)), ("c", "all", ((0, 10),)), ("d", "all", ((1, 5),))])
        user = Plan("user", ["x"], [("m", "part1", ((0, 100),))])
        self.assertEqual(hours_of(Book([part, user]), "user", [0]), [0, 106])

    def test_a_thing_in_several_items_of_a_part(self):
        user = Plan("user", ["x"], [("m", "both", ((0, 0), (0, 9))), ("n", "either", ((0, 0), (1, 0)))])
        self.assertEqual(hours_of(Book([BOTH, EITHER, user]), "user", [1]), [1, 8, 4])

    def test_parts_in_parts(self):
        middle = Plan("middle", ["a", "b"], [("c", "both", ((0, 0), (1, 0))), ("d", "either", ((2, 0), (1, 1)))])
        outer = Plan("outer", ["a"], [("b", "middle", ((0, 0), (0, 50))), ("c", "middle", ((1, 0), (0, 0)))])
        book = Book([BOTH, EITHER, middle, outer])
        self.assertEqual(hours_of(book, "middle", [0, 50]), [0, 50, 48, 49])
        self.assertEqual(hours_of(book, "outer", [0]), [0, 49, -1])

    def test_below_nought_and_of_many_figures(self):
        self.assertEqual(hours_of(Book([BOTH]), "both", [-10, -20]), [-10, -20, -7])
        self.assertEqual(hours_of(Book([BOTH]), "both", [-HUGE, HUGE]), [-HUGE, HUGE, HUGE - 2])
        wide = 10 ** 30 - 1
        book = Book([Plan("one", ["a"], [("b", "all", ((0, wide),)), ("c", "first", ((0, -wide), (1, 0)))])])
        self.assertEqual(hours_of(book, "one", [3]), [3, wide + 3, 3 - wide])

    def test_one_plan_among_others_is_run(self):
        book = Book([BOTH, EITHER])
        self.assertEqual(told_hour(book, "both", [10, 20]), 18)
        self.assertEqual(told_hour(book, "either", [10, 20]), 13)

    def test_a_chain_of_twenty_plans(self):
        plans = [Plan("p0", ["a"], [("b", "all", ((0, 1),))])]
        for number in range(1, 20):
            plans.append(Plan(f"p{number}", ["a"], [("b", f"p{number - 1}", ((0, 1),))]))
        looked(Book(plans))
        self.assertEqual(hours_of(Book(plans), "p19", [5]), [5, 25])

    def test_forty_rows_of_forty_items_with_parts(self):
        inner = [(f"m{row}", "all", tuple((row, item) for item in range(40))) for row in range(40)]
        outer = [(f"m{row}", "inner", ((row, -1),)) for row in range(40)]
        book = Book([Plan("inner", ["a"], inner), Plan("outer", ["a"], outer)])
        looked(book)
        self.assertEqual(told_hour(book, "inner", [0]), 40 * 39)
        self.assertEqual(told_hour(book, "outer", [0]), 40 * (40 * 39 - 1))

    def test_drawn_books(self):
        for seed in range(60):
            book = drawn_book(seed)
            looked(book)
            for plan in book.plans:
                for hours in drawn_hours(seed, 5, len(plan.givens), 12):
                    told = hours_of(book, plan.name, hours)
                    self.assertEqual(told, grown(book, plan.name, hours))
                    self.assertEqual(told_hour(book, plan.name, hours), told[-1])

    def test_a_name_that_no_plan_has(self):
        book = Book([BOTH, EITHER])
        for asked, text in itertools.product((hours_of, told_hour), ("", "a", "c", "all", "first", "Both", "both ")):
            self.assertRaises(NoPlan, asked, book, text, [0, 0])

    def test_kinds(self):
        told = hours_of(Book([BOTH]), "both", [10, 10])
        self.assertIs(type(told), list)
        self.assertEqual({type(hour) for hour in told}, {int})
        self.assertIs(type(told_hour(Book([BOTH]), "both", [10, 10])), int)


class Owning(unittest.TestCase):
    def test_what_is_handed_in_stays_as_it_was(self):
        book, hours = drawn_book(7), [4, -2, 9]
        for plan in book.plans:
            given = hours[:len(plan.givens)]
            before = fields(book)
            hours_of(book, plan.name, given)
            told_hour(book, plan.name, given)
            self.assertEqual(fields(book), before)
            self.assertEqual(given, hours[:len(plan.givens)])

    def test_what_is_told_is_the_asker_s_own(self):
        book, hours = Book([BOTH, EITHER]), [10, 20]
        told = hours_of(book, "both", hours)
        again = hours_of(book, "both", hours)
        self.assertIsNot(told, again)
        told.clear()
        self.assertEqual((hours, again), ([10, 20], [10, 20, 18]))
        self.assertEqual(hours_of(book, "both", hours), again)
        hours.clear()
        self.assertEqual(again, [10, 20, 18])


if __name__ == "__main__":
    unittest.main()
