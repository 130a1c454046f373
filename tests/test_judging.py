import copy
import itertools
import unittest

from allfirst.boxes import latest
from allfirst.errors import AllError, BadName, BadPart, BadPlan, BadRow, NoName, NoPlan, TooLong, TooMany, Unlike
from allfirst.holding import gain, slack
from allfirst.judging import held_up, judged, kept_by
from allfirst.lags import compared
from allfirst.plan import Book, Plan
from allfirst.planforms import told_form
from allfirst.running import told_hour
from allfirst.writing import shown

from helper import all_hours, drawn_book, drawn_hours, rich_book

HUGE = 10 ** 3000
PLANS = """plan both
 given a
 given b
 c all a, b
plan either
 given a
 given b
 c first a, b
plan same
 given x
 given y
 m part both x, y
 n part either x, m
 end all n, m
plan long
 given a
 given b
 c all a+5, b+5
plan one
 given a
 b all a
plan wide
 given a
 given b
 given c
 d first a, b, c
plan wide2
 given a
 given b
 c first a, b
plan wide3
 given a
 given b
 c first a, b
 end all a, b"""
BOOKS = [drawn_book(seed) for seed in range(20)] + [rich_book(seed) for seed in range(20)]

TOO_LONG = ["plan p0", " given a", " b all a"]
for step in range(1, 12):
    TOO_LONG += [f"plan p{step}", " given a", f" b part p{step - 1} a", f" c part p{step - 1} b"]
# Texts with their refusals and, where the refusal has one, the row.
BAD_TEXTS = [
    ("", BadRow, 1),
    ("plan one\n given a\n b all a\n", BadRow, 4),
    ("plan one\n given a\n b all c", NoName, 3),
    ("plan one\n given a\n a all a", BadName, None),
    ("plan one", BadPlan, None),
    ("plan one\n given a\n b part none a", BadPart, None),
    ("\n".join(TOO_LONG), TooLong, None),
]


class Refusals:
    """What the three have in common; `ask(text, name, most)` is each one's own."""

    def refused(self, error, *asked):
        with self.assertRaises(AllError) as taken:
            self.ask(*asked)
        self.assertIs(type(taken.exception), error)
        return taken.exception

    def test_as_the_text_is(self):
        for text, error, row in BAD_TEXTS:
            refusal = self.refused(error, text, "one", 60)
            self.assertEqual(getattr(refusal, "row", None), row)

    def test_the_text_ahead_of_the_name(self):
        for text, error, row in BAD_TEXTS:
            self.refused(error, text, "nobody", 60)
            self.refused(error, text, "", 60)

    def test_no_plan(self):
        for name in ("nobody", "", "a", "c", "all", "Both", "both ", " both", "plan both", "\n"):
            self.refused(NoPlan, PLANS, name, 60)

    def test_no_plan_ahead_of_too_many(self):
        self.refused(NoPlan, PLANS, "nobody", 1)

    def test_too_many(self):
        self.refused(TooMany, PLANS, "wide2", 1)
        self.ask(PLANS, "wide2", 2)

    def test_too_many_on_the_way(self):
        self.refused(TooMany, PLANS, "wide3", 1)
        self.ask(PLANS, "wide3", 2)

    def test_plans_that_are_not_asked_for_may_have_more(self):
        self.ask(PLANS, "both", 1)


class Judged(Refusals, unittest.TestCase):
    def ask(self, text, name, most):
        return judged(text, name, name, most)

    def parted(self, text, book, one, other, most=60):
        """The pair, held to the runs: earlier hours, later hours, or None."""
        earlier, later = judged(text, one, other, most)
        many = len([plan for plan in book.plans if plan.name == one][0].givens)
        for hours in (earlier, later):
            if hours is not None:
                self.assertEqual((type(hours), len(hours), {type(hour) for hour in hours}), (list, many, {int}))
        if earlier is not None:
            self.assertLess(told_hour(book, one, earlier), told_hour(book, other, earlier))
        if later is not None:
            self.assertGreater(told_hour(book, one, later), told_hour(book, other, later))
        return earlier is not None, later is not None

    def test_plans_that_agree(self):
        self.assertEqual(judged(PLANS, "both", "same", 60), (None, None))
        self.assertEqual(judged(PLANS, "same", "both", 60), (None, None))
        self.assertEqual(judged(PLANS, "both", "wide3", 60), (None, None))

    def test_a_plan_and_itself(self):
        for name in ("both", "either", "same", "long", "one", "wide"):
            self.assertEqual(judged(PLANS, name, name, 60), (None, None))

    def test_one_earlier_one_later_and_both(self):
        plans = [Plan("both", ["a", "b"], [("c", "all", ((0, 0), (1, 0)))]),
                 Plan("either", ["a", "b"], [("c", "first", ((0, 0), (1, 0)))]),
                 Plan("late", ["x", "y"], [("c", "all", ((0, 5),))])]
        book = Book(plans)
        text = shown(book)
        self.assertEqual(self.parted(text, book, "either", "both"), (True, False))
        self.assertEqual(self.parted(text, book, "both", "either"), (False, True))
        self.assertEqual(self.parted(text, book, "both", "late"), (True, True))
        self.assertEqual(self.parted(text, book, "either", "late"), (True, False))

    def test_given_things_are_matched_by_their_numbers(self):
        text = "plan p\n given a\n given b\n c all a\nplan q\n given b\n given a\n c all a\nplan r\n given z\n" \
               " given y\n x first z"
        self.assertEqual(judged(text, "p", "r", 60), (None, None))
        earlier, later = judged(text, "p", "q", 60)
        self.assertLess(earlier[0], earlier[1])
        self.assertGreater(later[0], later[1])

    def test_as_compared(self):
        for book in BOOKS:
            text = shown(book)
            for one, other in itertools.product(book.plans, repeat=2):
                if len(one.givens) == len(other.givens):
                    forms = [told_form(book, plan.name, 60) for plan in (one, other)]
                    expected = compared(forms[0], forms[1], len(one.givens))
                    told = judged(text, one.name, other.name, 60)
                    self.assertEqual([hours is None for hours in told], [hours is None for hours in expected])
                    self.assertIs(type(told), tuple)
                    self.parted(text, book, one.name, other.name)

    def test_none_just_where_no_hours_are_apart(self):
        names = ("one", "two", "three", "four")
        for seed in range(30):
            book = drawn_book(seed, reach=2, many=2)
            text = shown(book)
            for one, other in itertools.combinations(names, 2):
                many = [len(plan.givens) for plan in book.plans if plan.name in (one, other)]
                if many == [2, 2]:
                    grid = all_hours(2, range(-24, 25))[::3] + all_hours(2, (0, 90))
                    pairs = [(told_hour(book, one, hours), told_hour(book, other, hours)) for hours in grid]
                    told = self.parted(text, book, one, other)
                    self.assertEqual(told, (any(p < q for p, q in pairs), any(p > q for p, q in pairs)))

    def test_unlike(self):
        for one, other in (("both", "one"), ("one", "both"), ("wide", "both"), ("one", "wide")):
            with self.assertRaises(AllError) as taken:
                judged(PLANS, one, other, 60)
            self.assertIs(type(taken.exception), Unlike)

    def test_refusals_in_their_order(self):
        cases = [
            ("nobody", "none", 1, NoPlan), ("nobody", "wide2", 1, NoPlan), ("wide2", "nobody", 1, NoPlan),
            ("one", "nobody", 60, NoPlan), ("both", "nobody", 60, NoPlan), ("wide", "one", 1, Unlike),
            ("one", "wide", 1, Unlike), ("wide", "wide2", 1, Unlike), ("both", "wide2", 1, TooMany),
            ("wide2", "both", 1, TooMany), ("wide2", "either", 1, TooMany), ("both", "long", 1, None),
        ]
        for one, other, most, error in cases:
            with self.subTest(one, other=other):
                if error is None:
                    judged(PLANS, one, other, most)
                else:
                    with self.assertRaises(AllError) as taken:
                        judged(PLANS, one, other, most)
                    self.assertIs(type(taken.exception), error)

    def test_no_plan_for_the_other_s_name(self):
        for name in ("nobody", "", "all", "a"):
            self.assertRaises(NoPlan, judged, PLANS, "both", name, 60)
            self.assertRaises(NoPlan, judged, PLANS, name, "both", 60)

    def test_the_text_ahead_of_either_name(self):
        for text, error, row in BAD_TEXTS:
            for one, other in (("one", "nobody"), ("nobody", "one"), ("nobody", "nobody")):
                self.assertRaises(error, judged, text, one, other, 1)

    def test_what_is_told_is_the_asker_s_own(self):
        told = judged(PLANS, "long", "either", 60)
        before = copy.deepcopy(told)
        told[1].clear()
        self.assertEqual(judged(PLANS, "long", "either", 60), before)
        text = "plan p\n given a\n given b\n c all a\nplan q\n given b\n given a\n c all a"
        earlier, later = judged(text, "p", "q", 60)
        self.assertIsNot(earlier, later)


class KeptBy(Refusals, unittest.TestCase):
    def ask(self, text, name, most):
        return kept_by(text, name, 0, most)

    def test_one_box(self):
        self.assertEqual(kept_by(PLANS, "both", 10, 60), ["a 10, b 10"])
        self.assertEqual(kept_by(PLANS, "long", 12, 60), ["a 7, b 7"])
        self.assertEqual(kept_by(PLANS, "one", 3, 60), ["a 3"])

    def test_many_boxes(self):
        self.assertEqual(kept_by(PLANS, "either", 10, 60), ["a 10", "b 10"])
        text = "plan p\n given x\n given y\n given z\n m all x+1, y-1\n n all y, z+2\n end first m, n, x+9"
        self.assertEqual(kept_by(text, "p", 10, 60), ["x 1", "x 9, y 11", "y 10, z 8"])

    def test_in_the_order_of_the_boxes(self):
        # The boxes rise as tuples of numbers do, not as their lines would.
        text = "plan p\n given b\n given a\n end first a, b"
        self.assertEqual(kept_by(text, "p", 0, 60), ["b 0", "a 0"])
        text = "plan p\n given a\n given b\n m all a+1, b+2\n n all a+10, b-90\n end first m, n"
        self.assertEqual(kept_by(text, "p", 11, 60), ["a 1, b 101", "a 10, b 9"])

    def test_hours_of_nought_above_and_below_nought(self):
        text = "plan p\n given a\n given b\n given c\n end all a+5, b, c-5"
        self.assertEqual(kept_by(text, "p", 0, 60), ["a -5, b 0, c 5"])
        self.assertEqual(kept_by(text, "p", 5, 60), ["a 0, b 5, c 10"])
        self.assertEqual(kept_by(text, "p", -105, 60), ["a -110, b -105, c -100"])

    def test_many_figures(self):
        far = "9" * 30
        text = f"plan p\n given a\n given b\n end all a+{far}, b-{far}"
        self.assertEqual(kept_by(text, "p", 0, 60), [f"a -{far}, b {far}"])
        self.assertEqual(kept_by(PLANS, "one", HUGE, 60), ["a 1" + "0" * 3000])
        self.assertEqual(kept_by(PLANS, "one", -HUGE, 60), ["a -1" + "0" * 3000])

    def test_kept_in_the_run_just_where_a_line_is(self):
        for number, book in enumerate(BOOKS):
            text = shown(book)
            for plan in book.plans:
                lines = [[item.split(" ") for item in line.split(", ")] for line in kept_by(text, plan.name, 4, 60)]
                for hours in drawn_hours(number, 12, len(plan.givens), 20):
                    kept = any(all(hours[plan.givens.index(name)] <= int(hour) for name, hour in line)
                               for line in lines)
                    self.assertEqual(kept, told_hour(book, plan.name, hours) <= 4)

    def test_as_the_latest_boxes(self):
        for book in BOOKS:
            for plan in book.plans:
                boxes = latest([told_form(book, plan.name, 60)], [-3], 60)
                lines = [", ".join(f"{plan.givens[thing]} {hour}" for thing, hour in box) for box in boxes]
                self.assertEqual(kept_by(shown(book), plan.name, -3, 60), lines)

    def test_kinds_and_lists_of_their_own(self):
        told = kept_by(PLANS, "either", 10, 60)
        self.assertEqual((type(told), {type(line) for line in told}), (list, {str}))
        told.clear()
        self.assertEqual(kept_by(PLANS, "either", 10, 60), ["a 10", "b 10"])


class HeldUp(Refusals, unittest.TestCase):
    def ask(self, text, name, most):
        return held_up(text, name, [0, 0, 0], most)

    def test_slack_and_gain(self):
        self.assertEqual(held_up(PLANS, "both", [5, 3], 60), ["5", "a 0 2", "b 2 0"])
        self.assertEqual(held_up(PLANS, "long", [5, 5], 60), ["10", "a 0 0", "b 0 0"])

    def test_endless(self):
        self.assertEqual(held_up(PLANS, "either", [5, 3], 60), ["3", "a endless endless", "b 0 endless"])
        self.assertEqual(held_up(PLANS, "one", [7], 60), ["7", "a 0 endless"])
        text = "plan p\n given a\n given b\n c all b"
        self.assertEqual(held_up(text, "p", [4, 9], 60), ["9", "a endless 0", "b 0 endless"])

    def test_of_each_given_thing_in_order(self):
        text = "plan p\n given z\n given y\n given x\n m all z, y\n end first m, x"
        self.assertEqual(held_up(text, "p", [5, 3, 9], 60), ["5", "z 0 2", "y 2 0", "x endless endless"])

    def test_hours_of_nought_and_below_nought(self):
        self.assertEqual(held_up(PLANS, "both", [0, -3], 60), ["0", "a 0 3", "b 3 0"])
        self.assertEqual(held_up(PLANS, "both", [-20, -30], 60), ["-20", "a 0 10", "b 10 0"])
        self.assertEqual(held_up(PLANS, "long", [-5, -5], 60), ["0", "a 0 0", "b 0 0"])

    def test_many_figures(self):
        figures = "1" + "0" * 3000
        self.assertEqual(held_up(PLANS, "both", [HUGE, 0], 60), [figures, f"a 0 {figures}", f"b {figures} 0"])
        self.assertEqual(held_up(PLANS, "both", [-HUGE, -HUGE], 60), ["-" + figures, "a 0 0", "b 0 0"])

    def test_drawn_books(self):
        for number, book in enumerate(BOOKS):
            text = shown(book)
            for plan in book.plans:
                form = told_form(book, plan.name, 60)
                for hours in drawn_hours(number, 6, len(plan.givens), 12):
                    lines = [str(told_hour(book, plan.name, hours))]
                    for thing, name in enumerate(plan.givens):
                        turns = [slack(form, hours, thing), gain(form, hours, thing)]
                        lines.append(" ".join([name] + ["endless" if t is None else str(t) for t in turns]))
                    self.assertEqual(held_up(text, plan.name, hours, 60), lines)

    def test_kinds_and_lists_of_their_own(self):
        hours = [5, 3]
        told = held_up(PLANS, "both", hours, 60)
        self.assertEqual((type(told), {type(line) for line in told}), (list, {str}))
        told.clear()
        self.assertEqual(held_up(PLANS, "both", hours, 60), ["5", "a 0 2", "b 2 0"])
        self.assertEqual(hours, [5, 3])


if __name__ == "__main__":
    unittest.main()
