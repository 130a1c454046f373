import re
import unittest

from allfirst.looking import looked
from allfirst.plan import Book, Plan
from allfirst.writing import shown

from helper import drawn_book, fields, rich_book

WIDE = 10 ** 30 - 1
NAME = "[a-z][a-z0-9]{0,11}"
ITEM = NAME + "([+-][1-9][0-9]{0,29})?"
ROWS = re.compile(f"plan {NAME}| given {NAME}| {NAME} (all|first|part {NAME}) {ITEM}(, {ITEM})*")


class Shown(unittest.TestCase):
    def rows(self, plans, expected):
        book = Book(plans)
        looked(book)
        self.assertEqual(shown(book), "\n".join(expected))

    def test_one_plan(self):
        self.rows([Plan("one", ["a"], [("b", "all", ((0, 0),))])], ["plan one", " given a", " b all a"])

    def test_its_text_as_it_stands(self):
        book = Book([Plan("one", ["a"], [("b", "first", ((0, 1), (0, -1)))])])
        self.assertEqual(shown(book), "plan one\n given a\n b first a+1, a-1")

    def test_all_first_and_part(self):
        meet = Plan("meet", ["a", "b"], [("c", "all", ((0, 3), (1, -2)))])
        day = Plan("day", ["x", "y"], [("m", "meet", ((1, 0), (0, 7))), ("end", "first", ((2, 1), (0, 0), (1, -5)))])
        self.rows([meet, day], ["plan meet", " given a", " given b", " c all a+3, b-2", "plan day", " given x",
                                " given y", " m part meet y, x+7", " end first m+1, x, y-5"])

    def test_a_thing_in_several_items_and_of_a_made_thing(self):
        rows = [("b", "all", ((0, 1), (0, 0), (0, 1))), ("c", "first", ((1, -1), (0, 0), (1, 2)))]
        self.rows([Plan("one", ["a"], rows)], ["plan one", " given a", " b all a+1, a, a+1", " c first b-1, a, b+2"])

    def test_waits(self):
        for wait, text in ((0, "a"), (1, "a+1"), (-1, "a-1"), (9, "a+9"), (10, "a+10"), (-10, "a-10"),
                           (100, "a+100"), (WIDE, "a+" + "9" * 30), (-WIDE, "a-" + "9" * 30),
                           (10 ** 29, "a+1" + "0" * 29), (-(10 ** 29), "a-1" + "0" * 29)):
            self.rows([Plan("one", ["a"], [("b", "all", ((0, wait),))])], ["plan one", " given a", f" b all {text}"])

    def test_names_of_1_and_of_12_signs(self):
        long = "abcdefgh0123"
        plans = [Plan(long, [long], [("z9", "all", ((0, 5),))]), Plan("p", ["g"], [(long, long, ((0, -5),))])]
        self.rows(plans, [f"plan {long}", f" given {long}", f" z9 all {long}+5", "plan p", " given g",
                          f" {long} part {long} g-5"])

    def test_a_thing_of_a_plan_s_name(self):
        plans = [Plan("a", ["a"], [("b", "all", ((0, 0),))]), Plan("b", ["a"], [("b", "a", ((0, 0),))])]
        self.rows(plans, ["plan a", " given a", " b all a", "plan b", " given a", " b part a a"])

    def test_as_much_as_is_let(self):
        things = [f"g{number}" for number in range(12)]
        rows = [(f"m{number}", "all", ((0, 1),) * 40) for number in range(40)]
        plans = [Plan(f"p{number}", things, rows) for number in range(20)]
        one = [f" given {name}" for name in things]
        one += [f" m{number} all " + ", ".join(["g0+1"] * 40) for number in range(40)]
        self.rows(plans, [row for number in range(20) for row in [f"plan p{number}"] + one])

    def test_drawn_books_row_by_row(self):
        for seed in range(60):
            for book in (drawn_book(seed), drawn_book(seed, reach=WIDE), rich_book(seed)):
                text = shown(book)
                self.assertIs(type(text), str)
                rows = text.split("\n")
                self.assertEqual(len(rows), sum(1 + len(plan.givens) + len(plan.rows) for plan in book.plans))
                for row in rows:
                    self.assertTrue(ROWS.fullmatch(row), row)

    def test_the_book_stays_as_it_was(self):
        book = drawn_book(5)
        before = fields(book)
        self.assertEqual(shown(book), shown(book))
        self.assertEqual(fields(book), before)


if __name__ == "__main__":
    unittest.main()
