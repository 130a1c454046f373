import unittest

from allfirst.errors import NoPlan, TooMany
from allfirst.forms import first_of, form_hour, thing_form, waited
from allfirst.looking import looked
from allfirst.plan import Book, Plan
from allfirst.planforms import forms_of, planned, told_form
from allfirst.rows import shifted, thinned
from allfirst.running import hours_of

from helper import all_by_the_words, drawn_book, drawn_hours, fields, first_by_the_words, hold_to
from helper import put_by_the_words, rich_book, some_forms

WIDE = 10 ** 30 - 1
HUGE = 10 ** 3000
BOOKS = [drawn_book(seed) for seed in range(60)] + [rich_book(seed) for seed in range(60)]
BOTH = Plan("both", ["a", "b"], [("c", "all", ((0, 3), (1, -2)))])
EITHER = Plan("either", ["a", "b"], [("c", "first", ((0, 3), (1, -2)))])


def things(many):
    return [f"g{number}" for number in range(many)]


def firsts(name, many):
    """A plan whose made thing comes with the first of its given things."""
    return Plan(name, things(many), [("end", "first", tuple((thing, 0) for thing in range(many)))])


def met_by_the_words(book, name):
    """The forms of a plan, and all that are met on the way to them, row by row."""
    plan = [plan for plan in book.plans if plan.name == name][0]
    forms = [[((thing, 0),)] for thing in range(len(plan.givens))]
    met = list(forms)
    for made, how, items in plan.rows:
        put = [[shifted(row, wait) for row in forms[thing]] for thing, wait in items]
        if how == "all":
            met += all_by_the_words(put)
        elif how == "first":
            met += first_by_the_words(put)
        else:
            part, on_the_way = met_by_the_words(book, how)
            met += on_the_way + put_by_the_words(part[-1], put)
        forms.append(met[-1])
    return forms, met


class FormsOf(unittest.TestCase):
    def forms(self, plans, expected):
        """The forms of the last of these plans, of a book that is let."""
        book = Book(plans)
        looked(book)
        self.assertEqual(forms_of(book, plans[-1].name, 60), expected)
        self.assertEqual(told_form(book, plans[-1].name, 60), expected[-1])

    def test_all_and_first(self):
        self.forms([BOTH], [[((0, 0),)], [((1, 0),)], [((0, 3), (1, -2))]])
        self.forms([EITHER], [[((0, 0),)], [((1, 0),)], [((0, 3),), ((1, -2),)]])

    def test_one_given_thing(self):
        self.forms([Plan("one", ["a"], [("b", "all", ((0, 0),))])], [[((0, 0),)], [((0, 0),)]])

    def test_given_things_have_their_own_forms(self):
        many = Plan("many", things(12), [("m", "all", ((11, 1),))])
        self.forms([many], [thing_form(thing) for thing in range(12)] + [[((11, 1),)]])

    def test_made_things_of_made_things(self):
        rows = [("c", "all", ((0, 1), (1, 1))), ("d", "first", ((2, 5), (0, 9))), ("e", "all", ((3, 0), (1, 2)))]
        expected = [[((0, 0),)], [((1, 0),)], [((0, 1), (1, 1))], [((0, 6), (1, 6)), ((0, 9),)]]
        self.forms([Plan("one", ["a", "b"], rows)], expected + [[((0, 6), (1, 6)), ((0, 9), (1, 2))]])

    def test_a_thing_in_several_items(self):
        rows = [("b", "all", ((0, 1), (0, 7), (0, 3))), ("c", "first", ((0, 1), (0, -7), (1, -20)))]
        self.forms([Plan("one", ["a"], rows)], [[((0, 0),)], [((0, 7),)], [((0, -13),)]])

    def test_part_with_the_items_in_order(self):
        user = Plan("user", ["x", "y", "z"], [("m", "both", ((2, 100), (0, -1)))])
        self.forms([BOTH, user], [thing_form(0), thing_form(1), thing_form(2), [((0, -3), (2, 103))]])

    def test_a_part_is_its_last_made_thing(self):
        part = Plan("three", ["a"], [("b", "all", ((0, 1),)), ("c", "all", ((0, 10),)), ("d", "all", ((1, 5),))])
        user = Plan("user", ["x"], [("m", "three", ((0, 100),))])
        self.forms([part, user], [thing_form(0), [((0, 106),)]])

    def test_a_thing_in_several_items_of_a_part(self):
        user = Plan("user", ["x"], [("m", "both", ((0, 0), (0, 9))), ("n", "either", ((0, 0), (1, 0)))])
        self.forms([BOTH, EITHER, user], [thing_form(0), [((0, 7),)], [((0, 3),)]])

    def test_a_part_used_twice(self):
        rows = [("c", "either", ((0, 0), (1, 0))), ("d", "either", ((1, 0), (2, 0)))]
        expected = [thing_form(0), thing_form(1), [((0, 3),), ((1, -2),)], [((0, 1),), ((1, -4),)]]
        self.forms([EITHER, Plan("user", ["x", "y"], rows)], expected)

    def test_parts_in_parts(self):
        middle = Plan("middle", ["a", "b"], [("c", "both", ((0, 0), (1, 0))), ("d", "either", ((2, 0), (1, 10)))])
        outer = Plan("outer", ["a", "b"], [("c", "middle", ((0, 0), (1, 50))), ("d", "middle", ((2, 0), (0, 0)))])
        ahead = [thing_form(0), thing_form(1)]
        self.forms([BOTH, EITHER, middle], ahead + [[((0, 3), (1, -2))], [((0, 6), (1, 1)), ((1, 8),)]])
        self.forms([BOTH, EITHER, middle, outer], ahead + [[((0, 6), (1, 51)), ((1, 58),)],
                                                           [((0, 1), (1, 64)), ((0, 8),)]])

    def test_a_part_that_does_not_heed_all_of_its_given_things(self):
        part = Plan("heedless", ["a", "b"], [("c", "all", ((1, 4),))])
        user = Plan("user", ["x", "y"], [("m", "heedless", ((0, 0), (1, 0)))])
        self.forms([part, user], [thing_form(0), thing_form(1), [((1, 4),)]])

    def test_waits_of_30_figures(self):
        rows = [("b", "all", ((0, WIDE),)), ("c", "first", ((1, WIDE), (0, -WIDE))), ("d", "all", ((2, -WIDE),))]
        self.forms([Plan("one", ["a"], rows)], [[((0, 0),)], [((0, WIDE),)], [((0, -WIDE),)], [((0, -2 * WIDE),)]])

    def test_drawn_books_come_when_they_do_in_the_run(self):
        for number, book in enumerate(BOOKS):
            looked(book)
            for plan in book.plans:
                forms = forms_of(book, plan.name, 60)
                self.assertEqual(len(forms), len(plan.givens) + len(plan.rows))
                for form in forms:
                    self.assertEqual(thinned(form), form)
                for hours in drawn_hours(number, 25, len(plan.givens), 25):
                    told = hours_of(book, plan.name, hours)
                    self.assertEqual([form_hour(form, hours) for form in forms], told, (number, plan.name))
                self.assertEqual(told_form(book, plan.name, 60), forms[-1])

    def test_hours_of_many_figures(self):
        book = drawn_book(3)
        for plan in book.plans:
            for hours in drawn_hours(4, 10, len(plan.givens), HUGE):
                told = hours_of(book, plan.name, hours)
                self.assertEqual([form_hour(form, hours) for form in forms_of(book, plan.name, 60)], told)

    def test_a_heavy_book_with_a_part_in_each_row(self):
        rows = [(f"m{row}", "all" if row % 2 else "first", ((row, 1), (0, row))) for row in range(40)]
        outer = [(f"m{row}", "inner", ((row, 0), (1, row))) for row in range(40)]
        book = Book([Plan("inner", ["a", "b"], rows), Plan("outer", ["a", "b"], outer)])
        looked(book)
        forms = forms_of(book, "outer", 60)
        for hours in drawn_hours(5, 20, 2, 900):
            self.assertEqual([form_hour(form, hours) for form in forms], hours_of(book, "outer", hours))

    def test_no_plan(self):
        book = Book([BOTH, EITHER])
        for text in ("", "a", "c", "all", "first", "Both", "both ", "none"):
            for asked in (forms_of, told_form):
                self.assertRaises(NoPlan, asked, book, text, 60)

    def test_no_plan_ahead_of_too_many(self):
        book = Book([firsts("wide", 3)])
        for asked in (forms_of, told_form):
            self.assertRaises(TooMany, asked, book, "wide", 2)
            self.assertRaises(NoPlan, asked, book, "narrow", 2)


class RefusedWithTooMany(unittest.TestCase):
    def beyond(self, plans, greatest):
        """The last of the plans is refused just below so many rows."""
        book = Book(plans)
        looked(book)
        for asked in (forms_of, told_form):
            asked(book, plans[-1].name, greatest)
            self.assertRaises(TooMany, asked, book, plans[-1].name, greatest - 1)

    def test_first(self):
        self.beyond([firsts("wide", 12)], 12)

    def test_all(self):
        rows = [("p", "first", ((0, 0), (1, 0))), ("q", "first", ((2, 0), (3, 0), (4, 0)))]
        self.beyond([Plan("one", things(5), rows + [("end", "all", ((5, 0), (6, 0)))])], 6)

    def test_the_bound_of_60(self):
        rows = [("p", "first", tuple((thing, 0) for thing in range(5)))]
        rows += [("q", "first", tuple((thing, 0) for thing in range(5, 12)))]
        book = Book([Plan("one", things(12), rows + [("end", "all", ((12, 0), (13, 0)))])])
        self.assertEqual(len(told_form(book, "one", 60)), 35)
        self.assertRaises(TooMany, told_form, book, "one", 34)
        rows = [(f"p{k}", "first", ((3 * k, 0), (3 * k + 1, 0), (3 * k + 2, 0))) for k in range(4)]
        book = Book([Plan("one", things(12), rows + [("end", "all", ((12, 0), (13, 0), (14, 0), (15, 0)))])])
        self.assertRaises(TooMany, told_form, book, "one", 60)

    def test_on_the_way_to_first(self):
        rows = [("p", "all", ((0, 0), (1, 0))), ("q", "all", ((0, 0), (2, 0))), ("r", "all", ((0, 0), (3, 0)))]
        end = ("end", "first", ((4, 0), (5, 0), (6, 0), (0, 0)))
        self.beyond([Plan("one", things(4), rows + [end])], 3)
        end = ("end", "first", ((0, 0), (4, 0), (5, 0), (6, 0)))
        self.assertEqual(told_form(Book([Plan("one", things(4), rows + [end])]), "one", 1), [((0, 0),)])

    def test_on_the_way_to_all(self):
        rows = [("p", "first", ((0, 0), (1, 0))), ("q", "first", ((2, 0), (3, 0))), ("r", "all", ((0, 9), (2, 9)))]
        self.beyond([Plan("one", things(4), rows + [("end", "all", ((4, 0), (5, 0), (6, 0)))])], 4)
        self.beyond([Plan("one", things(4), rows + [("end", "all", ((6, 0), (5, 0), (4, 0)))])], 2)

    def test_on_the_way_of_what_is_put_in(self):
        # Of the part's three rows each has one row put in; of the first two and of all three there is one.
        part = Plan("some", things(3), [("end", "first", ((0, 0), (1, 0), (2, 0)))])
        rows = [("p", "all", ((0, 0), (1, 0))), ("q", "all", ((0, 0), (2, 0))), ("m", "some", ((3, 0), (4, 0), (0, 0)))]
        self.beyond([part, Plan("user", things(3), rows)], 3)
        forms, met = met_by_the_words(Book([part, Plan("user", things(3), rows)]), "user")
        self.assertEqual([len(form) for form in met[-6:]], [1, 1, 1, 1, 2, 1])

    def test_a_made_thing_that_is_not_heeded(self):
        rows = [("p", "first", ((0, 0), (1, 0), (2, 0))), ("end", "all", ((0, 0),))]
        self.beyond([Plan("one", things(3), rows)], 3)

    def test_a_part_s_own_forms_though_its_last_has_few(self):
        part = Plan("heedless", things(3), [("p", "first", ((0, 0), (1, 0), (2, 0))), ("end", "all", ((0, 0),))])
        user = Plan("user", ["x"], [("m", "heedless", ((0, 0), (0, 0), (0, 0)))])
        self.beyond([part, user], 3)

    def test_a_part_s_own_forms_though_little_is_put_in(self):
        user = Plan("user", ["x"], [("m", "wide", ((0, 0), (0, 1), (0, 2), (0, 3)))])
        self.beyond([firsts("wide", 4), user], 4)

    def test_what_is_put_into_the_last_of_a_part(self):
        rows = [("p", "first", ((0, 0), (1, 0))), ("q", "first", ((2, 0), (3, 0))), ("end", "both", ((4, 0), (5, 0)))]
        self.beyond([BOTH, Plan("user", things(4), rows)], 4)

    def test_a_part_of_a_part(self):
        middle = Plan("middle", ["x"], [("m", "wide", ((0, 0), (0, 1), (0, 2), (0, 3), (0, 4)))])
        user = Plan("user", ["x"], [("m", "middle", ((0, 0),)), ("end", "all", ((0, 0),))])
        self.beyond([firsts("wide", 5), middle, user], 5)

    def test_plans_that_are_no_part_of_it(self):
        book = Book([firsts("wide", 12), BOTH, firsts("wider", 12)])
        self.assertEqual(told_form(book, "both", 1), [((0, 3), (1, -2))])

    def test_a_given_thing_that_the_part_s_last_does_not_heed(self):
        part = Plan("heedless", ["a", "b"], [("c", "all", ((1, 0),))])
        rows = [("p", "first", ((0, 0), (1, 0))), ("q", "heedless", ((2, 0), (0, 0)))]
        self.beyond([part, Plan("user", ["x", "y"], rows)], 2)

    def test_drawn_books_by_the_words(self):
        greatest = 0
        for book in BOOKS:
            for plan in book.plans:
                forms, met = met_by_the_words(book, plan.name)
                hold_to(self, met, told_form, [book, plan.name])
                bound = max(len(form) for form in met)
                self.assertEqual(forms_of(book, plan.name, bound), forms)
                greatest = max(greatest, bound)
        self.assertGreater(greatest, 9)


class Planned(unittest.TestCase):
    def held(self, many, form):
        """What the plan of the form tells has just that form, in a book that is let."""
        plan = planned("one", many, form)
        looked(Book([plan]))
        self.assertEqual(told_form(Book([plan]), "one", 60), form)
        return plan

    def test_one_row(self):
        plan = self.held(2, [((0, 3), (1, -2))])
        self.assertEqual((plan.name, plan.givens), ("one", ["g0", "g1"]))
        self.assertEqual(plan.rows, [("r0", "all", ((0, 3), (1, -2))), ("end", "first", ((2, 0),))])

    def test_several_rows(self):
        plan = self.held(3, [((0, 3), (2, 0)), ((1, 0),), ((2, 7),)])
        self.assertEqual(plan.givens, ["g0", "g1", "g2"])
        self.assertEqual(plan.rows, [("r0", "all", ((0, 3), (2, 0))), ("r1", "all", ((1, 0),)),
                                     ("r2", "all", ((2, 7),)), ("end", "first", ((3, 0), (4, 0), (5, 0)))])

    def test_given_things_that_the_form_does_not_have(self):
        plan = self.held(12, [((4, 1),)])
        self.assertEqual(plan.givens, ["g0", "g1", "g2", "g3", "g4", "g5", "g6", "g7", "g8", "g9", "g10", "g11"])
        self.assertEqual(plan.rows, [("r0", "all", ((4, 1),)), ("end", "first", ((12, 0),))])

    def test_one_given_thing(self):
        self.assertEqual(self.held(1, [((0, 0),)]).rows, [("r0", "all", ((0, 0),)), ("end", "first", ((1, 0),))])

    def test_39_rows(self):
        pairs = [((one, 0), (other, 0)) for one in range(12) for other in range(one + 1, 12)]
        form = sorted(pairs)[:39]
        self.assertEqual(len(form), 39)
        plan = self.held(12, form)
        self.assertEqual([row[0] for row in plan.rows], [f"r{number}" for number in range(39)] + ["end"])
        self.assertEqual([row[2] for row in plan.rows[:39]], form)
        self.assertEqual(plan.rows[39], ("end", "first", tuple((12 + number, 0) for number in range(39))))

    def test_a_row_of_twelve_things(self):
        self.held(12, [tuple((thing, -thing) for thing in range(12))])

    def test_waits_at_the_bound_either_way(self):
        self.held(2, [((0, WIDE), (1, -WIDE))])
        self.held(2, [((0, -WIDE),), ((1, WIDE),)])

    def test_drawn_forms(self):
        for form in some_forms(81, 60, 4, [-2, 0, 1], 12):
            self.held(4, form)
            self.held(6, form)

    def test_of_the_form_of_a_plan(self):
        for book in BOOKS[::3]:
            for plan in book.plans:
                self.held(len(plan.givens), told_form(book, plan.name, 60))

    def test_as_a_part(self):
        form = [((0, 3), (1, 0)), ((1, 2),)]
        user = Plan("user", ["x", "y"], [("m", "inner", ((1, 10), (0, 20)))])
        book = Book([planned("inner", 2, form), user])
        looked(book)
        self.assertEqual(told_form(book, "user", 60), [((0, 20), (1, 13)), ((0, 22),)])

    def test_kinds(self):
        plan = planned("one", 2, [((0, 3), (1, -2)), ((1, 5),)])
        self.assertIs(type(plan), Plan)
        self.assertEqual((type(plan.name), type(plan.givens), type(plan.rows)), (str, list, list))
        for made, how, items in plan.rows:
            self.assertEqual((type(made), type(how), type(items)), (str, str, tuple))
            self.assertEqual({type(item) for item in items}, {tuple})
            self.assertEqual({type(number) for item in items for number in item}, {int})


class Owning(unittest.TestCase):
    def test_what_is_handed_in_stays_as_it_was(self):
        book, form = drawn_book(7), [((0, 3), (1, -2)), ((1, 5),)]
        before = fields(book)
        for plan in book.plans:
            forms_of(book, plan.name, 60)
            told_form(book, plan.name, 60)
        planned("one", 2, form)
        self.assertEqual(fields(book), before)
        self.assertEqual(form, [((0, 3), (1, -2)), ((1, 5),)])

    def test_no_two_forms_are_one(self):
        rows = [("c", "all", ((0, 0),)), ("d", "first", ((2, 0),)), ("e", "either", ((0, 0), (1, 0)))]
        rows += [("f", "either", ((0, 0), (1, 0))), ("g", "all", ((5, 0),)), ("h", "first", ((5, 0), (5, 0)))]
        book = Book([EITHER, Plan("user", ["a", "b"], rows)])
        told = forms_of(book, "user", 60) + forms_of(book, "user", 60) + [told_form(book, "user", 60)]
        self.assertEqual(len({id(form) for form in told}), len(told))

    def test_what_the_asker_does_to_it_changes_nothing(self):
        book, form = Book([EITHER, BOTH]), [((0, 3), (1, -2)), ((1, 5),)]
        for inner in forms_of(book, "either", 60) + [told_form(book, "either", 60)]:
            inner.append(((9, 9),))
        self.assertEqual(forms_of(book, "either", 60), [[((0, 0),)], [((1, 0),)], [((0, 3),), ((1, -2),)]])
        plan = planned("one", 2, form)
        rows = list(plan.rows)
        plan.rows.clear()
        plan.givens.clear()
        again = planned("one", 2, form)
        form.clear()
        self.assertEqual((again.givens, again.rows), (["g0", "g1"], rows))

    def test_the_same_as_by_hand(self):
        by_hand = first_of([waited(thing_form(0), 3), waited(thing_form(1), -2)], 60)
        self.assertEqual(told_form(Book([EITHER]), "either", 60), by_hand)


if __name__ == "__main__":
    unittest.main()
