import copy
import itertools
import unittest

from allfirst.errors import BadName, BadPart, BadPlan, NoPlan, TooLong
from allfirst.looking import is_name, looked, weight
from allfirst.plan import Book, Plan

WORDS = ["plan", "given", "all", "first", "part"]
LIMIT = 10 ** 30


def named(count, letter):
    return [f"{letter}{number}" for number in range(count)]


def plain(name, rows=1):
    """A plan of one given thing and as many rows of it."""
    return Plan(name, ["a"], [(made, "all", ((0, 0),)) for made in named(rows, "m")])


def repeated(name, part, times):
    """A plan of one given thing with as many rows that are the part."""
    return Plan(name, ["a"], [(made, part, ((0, 0),)) for made in named(times, "m")])


def with_items(items, how="all"):
    return Book([Plan("one", ["a", "b"], [("c", how, items)])])


def weighing(heaviness):
    """A book with the plan `last` of this weight, of 1641 to 2100."""
    # A row for `many` weighs 1641, one for `forty` 41 and one for `ten` 11.
    forties, rest = divmod(heaviness - 1641, 41)
    tens, ones = divmod(rest, 11)
    rows = [("end", "many", ((0, 0),))]
    rows += [(made, "forty", ((0, 0),)) for made in named(forties, "x")]
    rows += [(made, "ten", ((0, 0),)) for made in named(tens, "y")]
    rows += [(made, "all", ((0, 0),)) for made in named(ones, "z")]
    ahead = [plain("forty", 40), plain("ten", 10), repeated("many", "forty", 40)]
    return Book(ahead + [Plan("last", ["a"], rows)])


class IsName(unittest.TestCase):
    def yes(self, *texts):
        for text in texts:
            with self.subTest(text):
                self.assertIs(is_name(text), True)

    def no(self, *texts):
        for text in texts:
            with self.subTest(text):
                self.assertIs(is_name(text), False)

    def test_of_1_12_and_13_signs(self):
        self.yes("a", "z", "abcdefghijkl", "a23456789012")
        self.no("abcdefghijklm", "a234567890123", "a" * 1000)

    def test_the_empty_text(self):
        self.no("")

    def test_a_figure_first(self):
        self.no("0", "9", "1a", "0abc")
        self.yes("a0", "a9", "z0123456789")

    def test_each_sign(self):
        for code in range(128):
            sign = chr(code)
            self.assertIs(is_name("b" + sign), sign in "abcdefghijklmnopqrstuvwxyz0123456789", repr(sign))
            self.assertIs(is_name(sign + "b"), sign in "abcdefghijklmnopqrstuvwxyz", repr(sign))
            self.assertIs(is_name("b" + sign + "b"), sign in "abcdefghijklmnopqrstuvwxyz0123456789", repr(sign))

    def test_capital_letters_and_blanks(self):
        self.no("A", "aB", "Abc", " ", " a", "a ", "a b", "a\n", "\na", "a_b", "a-b", "a,b", "a+1")

    def test_signs_of_other_alphabets(self):
        self.no("\u00e9", "a\u00e9", "\u03b1", "a\u0661", "a\u00b2")

    def test_the_five_words_and_words_near_them(self):
        self.no(*WORDS)
        for word in WORDS:
            self.yes(word + "s", word + "0", word[1:], word[:-1], word + word[0])
        self.yes("end", "late", "al", "alls", "planall")


class Weight(unittest.TestCase):
    def test_one_for_each_row(self):
        for rows in (1, 2, 40):
            self.assertEqual(weight(Book([plain("one", rows)]), "one"), rows)

    def test_first_counts_as_all_does(self):
        self.assertEqual(weight(with_items(((0, 0),), "first"), "one"), 1)

    def test_items_do_not_count(self):
        self.assertEqual(weight(with_items(((0, 0), (1, 0), (0, 0))), "one"), 1)

    def test_parts_and_parts_in_parts(self):
        two = Plan("two", ["a"], [("b", "one", ((0, 0),)), ("c", "all", ((1, 0),)), ("d", "one", ((2, 0),))])
        three = Plan("three", ["a"], [("b", "two", ((0, 0),)), ("c", "one", ((0, 0),)), ("d", "two", ((0, 0),))])
        book = Book([plain("one", 3), two, three])
        self.assertEqual([weight(book, name) for name in ("one", "two", "three")], [3, 9, 24])

    def test_of_a_book_that_is_too_long(self):
        plans = [plain("p0", 40)] + [repeated(f"p{number}", f"p{number - 1}", 40) for number in range(1, 20)]
        expected = 40
        for number in range(20):
            self.assertEqual(weight(Book(plans), f"p{number}"), expected)
            expected = 40 + 40 * expected

    def test_no_plan(self):
        for text in ("", "two", "a", "all", "first", "One"):
            self.assertRaises(NoPlan, weight, Book([plain("one")]), text)


class Looked(unittest.TestCase):
    def let(self, book):
        self.assertIs(looked(book), None)

    def refused(self, error, book):
        with self.assertRaises(error) as taken:
            looked(book)
        self.assertIs(type(taken.exception), error)

    def test_books_that_are_let(self):
        self.let(Book([plain("one")]))
        self.let(with_items(((0, 5), (1, -5), (0, 0)), "first"))
        both = Plan("both", ["a", "b"], [("c", "all", ((0, 0), (1, 0)))])
        user = Plan("user", ["a"], [("b", "both", ((0, 1), (0, -1))), ("c", "both", ((1, 0), (0, 0)))])
        self.let(Book([both, user]))

    def test_names_may_stand_in_several_plans_and_be_plans_names(self):
        self.let(Book([Plan("a", ["a"], [("b", "all", ((0, 0),))]), Plan("b", ["a"], [("b", "a", ((0, 0),))])]))

    def test_bad_names_of_plans(self):
        for name in WORDS + ["", "One", "1one", "one ", "a" * 13, "a.b"]:
            self.refused(BadName, Book([plain(name)]))
            self.refused(BadName, Book([plain("fine"), plain(name)]))
        self.let(Book([plain("a" * 12)]))

    def test_two_plans_of_one_name(self):
        self.refused(BadName, Book([plain("one"), plain("one")]))
        self.refused(BadName, Book([plain("one"), plain("two"), plain("one", 2)]))

    def test_bad_names_of_things(self):
        for name in WORDS + ["", "A", "1a", "a b", "a" * 13, "a\n"]:
            self.refused(BadName, Book([Plan("one", [name], [("m", "all", ((0, 0),))])]))
            self.refused(BadName, Book([Plan("one", ["g", name], [("m", "all", ((0, 0),))])]))
            self.refused(BadName, Book([Plan("one", ["g"], [(name, "all", ((0, 0),))])]))
            self.refused(BadName, Book([plain("fine"), Plan("one", ["g"], [("m", "all", ((0, 0),)),
                                                                       (name, "all", ((0, 0),))])]))

    def test_two_things_of_one_name(self):
        row = ("m", "all", ((0, 0),))
        self.refused(BadName, Book([Plan("one", ["a", "a"], [row])]))
        self.refused(BadName, Book([Plan("one", ["a", "m"], [row])]))
        self.refused(BadName, Book([Plan("one", ["a"], [row, ("n", "all", ((0, 0),)), row])]))
        self.refused(BadName, Book([plain("fine"), Plan("one", ["a"], [row, row])]))

    def test_how_many_plans(self):
        self.refused(BadPlan, Book([]))
        self.let(Book([plain(name) for name in named(20, "p")]))
        self.refused(BadPlan, Book([plain(name) for name in named(21, "p")]))

    def test_how_many_given_things(self):
        for count, allowed in ((0, False), (1, True), (12, True), (13, False)):
            given = named(count, "g")
            book = Book([plain("fine"), Plan("one", given, [("a", "all", ((0, 0),)), ("b", "all", ((0, 0),))])])
            if allowed:
                self.let(book)
            else:
                self.refused(BadPlan, book)

    def test_how_many_rows(self):
        for count, allowed in ((0, False), (1, True), (40, True), (41, False)):
            for book in (Book([plain("one", count)]), Book([plain("fine"), plain("one", count)])):
                if allowed:
                    self.let(book)
                else:
                    self.refused(BadPlan, book)

    def test_how_many_items(self):
        for how in ("all", "first"):
            self.refused(BadPlan, with_items((), how))
            self.let(with_items(((0, 0),) * 40, how))
            self.refused(BadPlan, with_items(((0, 0),) * 41, how))

    def test_items_of_things_ahead(self):
        for thing, allowed in ((-1, False), (0, True), (1, True), (2, True), (3, False), (4, False), (-3, False)):
            rows = [("c", "all", ((0, 0),)), ("d", "first", ((0, 0), (thing, 0))), ("e", "all", ((0, 0),))]
            book = Book([Plan("one", ["a", "b"], rows)])
            if allowed:
                self.let(book)
            else:
                self.refused(BadPlan, book)

    def test_the_first_row_has_the_given_things_alone(self):
        self.let(with_items(((1, 0),)))
        self.refused(BadPlan, with_items(((2, 0),)))

    def test_a_row_deep_in_a_plan(self):
        rows = [(made, "all", ((number, 0),)) for number, made in enumerate(named(40, "m"))]
        self.let(Book([Plan("one", ["a"], rows)]))
        rows[39] = ("m39", "all", ((40, 0),))
        self.refused(BadPlan, Book([Plan("one", ["a"], rows)]))

    def test_waits_at_the_bound_either_way(self):
        for wait in (LIMIT - 1, 1 - LIMIT, 0):
            self.let(with_items(((0, 0), (1, wait))))
            self.let(with_items(((0, wait), (1, 0)), "first"))
        for wait in (LIMIT, -LIMIT, LIMIT + 1, -LIMIT - 1, 10 ** 3000, -(10 ** 3000)):
            self.refused(BadPlan, with_items(((0, 0), (1, wait))))
            self.refused(BadPlan, with_items(((0, wait), (1, 0)), "first"))

    def test_parts_are_plans_ahead(self):
        row = ("b", "one", ((0, 0),))
        self.let(Book([plain("one"), Plan("two", ["a"], [row])]))
        self.refused(BadPart, Book([Plan("two", ["a"], [row]), plain("one")]))
        self.refused(BadPart, Book([Plan("one", ["a"], [row])]))
        self.refused(BadPart, Book([plain("two"), Plan("three", ["a"], [("c", "all", ((0, 0),)), row])]))

    def test_texts_that_are_no_way_of_making(self):
        for how in ("", "All", "FIRST", "all ", "part", "plan", "given", "none", "a", "c", "first\n"):
            self.refused(BadPart, with_items(((0, 0),), how))

    def test_as_many_items_as_the_part_has_given_things(self):
        two = Plan("two", ["a", "b"], [("c", "all", ((0, 0),)), ("d", "all", ((0, 0),)), ("e", "all", ((0, 0),))])
        for count, error in ((1, BadPart), (2, None), (3, BadPart), (5, BadPart)):
            book = Book([two, Plan("user", ["a"], [("b", "two", ((0, 0),) * count)])])
            if error is None:
                self.let(book)
            else:
                self.refused(error, book)

    def test_a_part_of_twelve_given_things(self):
        twelve = Plan("twelve", named(12, "g"), [("m", "all", ((11, 0),))])
        self.let(Book([twelve, Plan("user", ["a"], [("b", "twelve", ((0, 0),) * 12)])]))

    def test_a_weight_of_2000_and_of_more(self):
        for heaviness, error in ((1999, None), (2000, None), (2001, TooLong), (2002, TooLong)):
            book = weighing(heaviness)
            self.assertEqual(weight(book, "last"), heaviness)
            if error is None:
                self.let(book)
            else:
                self.refused(error, book)

    def test_too_long_far_beyond(self):
        plans = [plain("p0", 40)] + [repeated(f"p{number}", f"p{number - 1}", 40) for number in range(1, 20)]
        self.refused(TooLong, Book(plans))
        self.let(Book(plans[:2]))

    def test_too_long_in_a_plan_ahead_of_the_last(self):
        plans = weighing(2001).plans + [plain("light")]
        self.refused(TooLong, Book(plans))


FAULTS = [
    (BadName, [plain("plan")]),
    (BadName, [Plan("badthing", ["A"], [("m", "all", ((0, 0),))])]),
    (BadPlan, [Plan("norow", ["a"], [])]),
    (BadPlan, [Plan("nogiven", [], [("m", "all", ((0, 0),))])]),
    (BadPlan, [Plan("noitem", ["a"], [("m", "all", ())])]),
    (BadPlan, [Plan("nothing", ["a"], [("m", "all", ((1, 0),))])]),
    (BadPlan, [Plan("bigwait", ["a"], [("m", "all", ((0, LIMIT),))])]),
    (BadPart, [Plan("nopart", ["a"], [("m", "none", ((0, 0),))])]),
    (BadPart, [Plan("itself", ["a"], [("m", "itself", ((0, 0),))])]),
    (TooLong, weighing(2001).plans),
]
ORDER = [BadName, BadPlan, BadPart, TooLong]


class OrderOfRefusals(unittest.TestCase):
    def told(self, plans):
        with self.assertRaises((BadName, BadPlan, BadPart, TooLong)) as taken:
            looked(Book(plans))
        return type(taken.exception)

    def test_each_fault_alone(self):
        for error, plans in FAULTS:
            self.assertIs(self.told(plans), error)
            self.assertIs(self.told([plain("fine")] + plans), error)
            self.assertIs(self.told(plans + [plain("fine")]), error)

    def test_two_faults_at_once_in_whatever_plan(self):
        for (one, plans), (other, others) in itertools.permutations(FAULTS, 2):
            least = min(one, other, key=ORDER.index)
            self.assertIs(self.told(plans + others), least, (one, other))

    def test_two_faults_in_one_row(self):
        self.assertIs(self.told([Plan("one", ["a"], [("B", "none", ((0, LIMIT),))])]), BadName)
        self.assertIs(self.told([Plan("one", ["a"], [("b", "none", ((0, LIMIT),))])]), BadPlan)
        self.assertIs(self.told([Plan("one", ["a"], [("b", "none", ())])]), BadPlan)
        self.assertIs(self.told([Plan("one", ["a"], [("b", "none", ((1, 0),))])]), BadPlan)

    def test_too_many_plans_with_other_faults(self):
        plans = [plain(name) for name in named(20, "p")]
        self.assertIs(self.told(plans + [plain("P")]), BadName)
        self.assertIs(self.told(plans + [Plan("last", ["a"], [("b", "none", ((0, 0),))])]), BadPlan)
        plans = [plain("p0", 40)] + [repeated(f"p{number}", f"p{number - 1}", 40) for number in range(1, 21)]
        self.assertIs(self.told(plans), BadPlan)


class TheBookStays(unittest.TestCase):
    def test_looked_at_and_weighed(self):
        for plans in [weighing(2000).plans] + [plans for error, plans in FAULTS]:
            book = Book(plans)
            before = copy.deepcopy([(plan.name, plan.givens, plan.rows) for plan in book.plans])
            try:
                looked(book)
            except (BadName, BadPlan, BadPart, TooLong):
                pass
            self.assertEqual([(plan.name, plan.givens, plan.rows) for plan in book.plans], before)
        book = weighing(2001)
        before = copy.deepcopy([(plan.name, plan.givens, plan.rows) for plan in book.plans])
        weight(book, "last")
        self.assertEqual([(plan.name, plan.givens, plan.rows) for plan in book.plans], before)


if __name__ == "__main__":
    unittest.main()
