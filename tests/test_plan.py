import unittest

from allfirst.errors import NoPlan
from allfirst.plan import Book, Plan, plan_by

ROWS = [("c", "all", ((0, 1), (1, -2))), ("d", "first", ((0, 0), (2, 10 ** 29)))]


class Plans(unittest.TestCase):
    def test_fields_as_they_were_handed_in(self):
        plan = Plan("one", ["a", "b"], ROWS)
        self.assertEqual((plan.name, plan.givens, plan.rows), ("one", ["a", "b"], ROWS))
        self.assertEqual((type(plan.name), type(plan.givens), type(plan.rows)), (str, list, list))
        self.assertEqual({type(row) for row in plan.rows}, {tuple})

    def test_by_names_of_the_arguments(self):
        plan = Plan(name="one", givens=["a"], rows=[])
        self.assertEqual((plan.name, plan.givens, plan.rows), ("one", ["a"], []))

    def test_lists_of_their_own(self):
        givens, rows = ["a", "b"], list(ROWS)
        plan, twin = Plan("one", givens, rows), Plan("one", givens, rows)
        givens.append("x")
        rows.clear()
        self.assertEqual((plan.givens, plan.rows), (["a", "b"], ROWS))
        plan.givens.clear()
        plan.rows.append("x")
        self.assertEqual((twin.givens, twin.rows), (["a", "b"], ROWS))
        self.assertEqual((givens, rows), (["a", "b", "x"], []))

    def test_what_a_book_would_be_refused_for_is_kept_too(self):
        plan = Plan("", [], [("all", "", ())])
        self.assertEqual((plan.name, plan.givens, plan.rows), ("", [], [("all", "", ())]))


class Books(unittest.TestCase):
    def test_field_as_it_was_handed_in(self):
        plans = [Plan("one", ["a"], ROWS), Plan("two", ["a"], ROWS)]
        book = Book(plans)
        self.assertIs(type(book.plans), list)
        self.assertEqual([plan.name for plan in book.plans], ["one", "two"])
        self.assertEqual(Book(plans=[]).plans, [])

    def test_a_list_of_its_own(self):
        plans = [Plan("one", ["a"], ROWS), Plan("two", ["a"], ROWS)]
        book, twin = Book(plans), Book(plans)
        plans.clear()
        self.assertEqual(len(book.plans), 2)
        book.plans.clear()
        self.assertEqual(len(twin.plans), 2)


class PlanBy(unittest.TestCase):
    def test_the_plan_of_each_name(self):
        book = Book([Plan(name, ["a"], ROWS) for name in ("one", "two", "three")])
        for number, name in enumerate(("one", "two", "three")):
            self.assertIs(plan_by(book, name), book.plans[number])

    def test_any_other_text(self):
        book = Book([Plan(name, ["a", "b"], ROWS) for name in ("one", "two", "three")])
        for text in ("", "on", "onee", "One", " one", "one ", "one\n", "a", "c", "all", "plan", "\n", "one two"):
            with self.subTest(text):
                self.assertRaises(NoPlan, plan_by, book, text)

    def test_a_book_of_no_plans(self):
        self.assertRaises(NoPlan, plan_by, Book([]), "one")


if __name__ == "__main__":
    unittest.main()
