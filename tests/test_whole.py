"""What the document promises over the whole program: plans, their runs, and all that is told of their forms."""

import itertools
import unittest

from allfirst.boxes import earliest, keeps_earliest, keeps_latest, latest, windows
from allfirst.columns import columns_hour, meeting, turned, turned_back
from allfirst.forms import form_hour
from allfirst.holding import gain, holders, slack, ways
from allfirst.lags import compared, lag, lag_paper, later_by
from allfirst.looking import looked
from allfirst.plan import Book, Plan, plan_by
from allfirst.planforms import forms_of, planned, told_form
from allfirst.reading import read
from allfirst.rounds import bound, is_paper, round_forms, round_hours
from allfirst.rows import under
from allfirst.running import hours_of, told_hour
from allfirst.writing import shown

from helper import drawn_book, drawn_hours, rich_book, some_forms

FAR = 10 ** 6
BOOKS = [drawn_book(seed) for seed in range(40)] + [rich_book(seed) for seed in range(40)]
CASES = [(book, plan) for book in BOOKS for plan in book.plans]
PAIRS = [(book, one, other) for book in BOOKS + [drawn_book(seed, reach=1, many=2) for seed in range(40)]
         for one, other in itertools.product(book.plans, repeat=2) if len(one.givens) == len(other.givens)]


def hours_for(plan, count=15, reach=20):
    return drawn_hours(len(plan.rows), count, len(plan.givens), reach)


def moved(hours, things, turns):
    return [hour + turns if number in things else hour for number, hour in enumerate(hours)]


def told_in_run(book, plan):
    """The hours at which what the plan tells comes, by its run."""
    return lambda hours: told_hour(book, plan.name, hours)


def turned_about(plan):
    """The same plan with the items of all and first in the opposite order, each standing twice."""
    rows = []
    for made, how, items in plan.rows:
        rows.append((made, how, tuple(reversed(items)) + items if how in ("all", "first") else items))
    return Plan(plan.name + "t", plan.givens, rows)


def by_columns(name, many, columns):
    """A plan that is all of the firsts of columns."""
    rows = [(f"c{number}", "first", column) for number, column in enumerate(columns)]
    return Plan(name, [f"g{thing}" for thing in range(many)],
                rows + [("end", "all", tuple((many + number, 0) for number in range(len(columns))))])


def without_parts(book, plan):
    """The same plan with the rows of its parts, and of theirs, in the place of the parts."""
    rows = []

    def grow(inner, places):
        # The places tell, for each thing of the inner plan, a thing of the grown one and a wait.
        for made, how, items in inner.rows:
            put = [(places[thing][0], places[thing][1] + wait) for thing, wait in items]
            if how in ("all", "first"):
                rows.append((f"w{len(rows)}", how, tuple(put)))
                places = places + [(len(plan.givens) + len(rows) - 1, 0)]
            else:
                places = places + [grow(plan_by(book, how), put)]
        return places[-1]

    thing, wait = grow(plan, [(thing, 0) for thing in range(len(plan.givens))])
    return Plan("grown", plan.givens, rows + [("end", "all", ((thing, wait),))])


class FormsAndRuns(unittest.TestCase):
    def test_the_form_tells_the_hour_that_the_run_tells(self):
        for book, plan in CASES:
            form = told_form(book, plan.name, 60)
            for hours in hours_for(plan):
                self.assertEqual(form_hour(form, hours), told_hour(book, plan.name, hours))

    def test_so_does_that_of_what_is_written_and_read(self):
        for book, plan in CASES:
            again = read(shown(book))
            self.assertEqual(forms_of(again, plan.name, 60), forms_of(book, plan.name, 60))
            for hours in hours_for(plan, 4):
                self.assertEqual(hours_of(again, plan.name, hours), hours_of(book, plan.name, hours))

    def test_plans_that_agree_have_one_form(self):
        for book, plan in CASES:
            form, many = told_form(book, plan.name, 60), len(plan.givens)
            others = [turned_about(plan), planned("rows", many, form), without_parts(book, plan)]
            others.append(by_columns("columns", many, turned(form, 60)))
            wider = Book(book.plans + others)
            looked(Book(book.plans + others[:2]))
            for other in others:
                self.assertEqual(told_form(wider, other.name, 60), form, (plan.name, other.name))
                self.assertEqual(compared(told_form(wider, other.name, 60), form, many), (None, None))
                for hours in hours_for(plan, 5):
                    self.assertEqual(told_hour(wider, other.name, hours), told_hour(book, plan.name, hours))

    def test_plans_of_other_forms_part_at_the_hours_that_are_told(self):
        same = 0
        for book, one, other in PAIRS:
            forms = [told_form(book, plan.name, 60) for plan in (one, other)]
            earlier, later = compared(forms[0], forms[1], len(one.givens))
            self.assertEqual(forms[0] == forms[1], (earlier, later) == (None, None))
            first, second = told_in_run(book, one), told_in_run(book, other)
            self.assertTrue(earlier is None or first(earlier) < second(earlier))
            self.assertTrue(later is None or first(later) > second(later))
            for hours in hours_for(one):
                self.assertTrue(earlier is not None or first(hours) >= second(hours))
                self.assertTrue(later is not None or first(hours) <= second(hours))
            same += one.name != other.name and forms[0] == forms[1]
        self.assertGreater(same, 5)

    def test_turned_to_columns_it_tells_the_same(self):
        for book, plan in CASES:
            form = told_form(book, plan.name, 60)
            columns = turned(form, 60)
            self.assertEqual(turned_back(columns, 60), form)
            for hours in hours_for(plan):
                self.assertEqual(columns_hour(columns, hours), told_hour(book, plan.name, hours))
            for row, column in itertools.product(form, columns):
                self.assertIsNotNone(meeting(row, column))


class Later(unittest.TestCase):
    def test_never_later_just_where_the_paper_says_so(self):
        never = 0
        for book, one, other in PAIRS:
            forms = [told_form(book, plan.name, 60) for plan in (one, other)]
            behind, paper = lag(forms[0], forms[1]), lag_paper(forms[0], forms[1])
            hours = later_by(forms[0], forms[1], 1, len(one.givens))
            if behind is None or behind > 0:
                self.assertGreater(told_hour(book, one.name, hours), told_hour(book, other.name, hours))
                continue
            never += 1
            self.assertIsNone(hours)
            self.assertTrue(all(under(forms[0][number], row) for number, row in zip(paper, forms[1], strict=True)))
            for hours in hours_for(one):
                self.assertLessEqual(told_hour(book, one.name, hours), told_hour(book, other.name, hours))
        self.assertGreater(never, 20)

    def test_the_lag_is_what_the_runs_come_to(self):
        for book, one, other in PAIRS:
            forms = [told_form(book, plan.name, 60) for plan in (one, other)]
            behind = lag(forms[0], forms[1])
            turns = 10 ** 40 if behind is None else behind
            hours = later_by(forms[0], forms[1], turns, len(one.givens))
            self.assertGreaterEqual(told_hour(book, one.name, hours) - told_hour(book, other.name, hours), turns)
            for hours in hours_for(one):
                more = told_hour(book, one.name, hours) - told_hour(book, other.name, hours)
                self.assertLessEqual(more, turns)


class DeadlinesAndFloors(unittest.TestCase):
    def test_of_all_things_of_a_plan(self):
        for book, plan in CASES:
            forms = forms_of(book, plan.name, 60)[len(plan.givens):]
            ends = [3 * number - 4 for number in range(len(forms))]
            floors = [end - 9 for end in ends]
            late = latest(forms, ends, 60)
            early = earliest([turned(form, 60) for form in forms], floors, 60)
            both = windows(late, early)
            for hours in hours_for(plan, 40, 12):
                made = hours_of(book, plan.name, hours)[len(plan.givens):]
                in_time = all(hour <= end for hour, end in zip(made, ends))
                not_ahead = all(hour >= floor for hour, floor in zip(made, floors))
                self.assertEqual(any(keeps_latest(box, hours) for box in late), in_time)
                self.assertEqual(any(keeps_earliest(box, hours) for box in early), not_ahead)
                kept = [keeps_latest(one, hours) and keeps_earliest(other, hours) for one, other in both]
                self.assertEqual(any(kept), in_time and not_ahead)

    def test_no_box_is_needless(self):
        for book, plan in CASES:
            form = told_form(book, plan.name, 60)
            for box in latest([form], [5], 60):
                hours = [dict(box).get(thing, FAR) for thing in range(len(plan.givens))]
                self.assertLessEqual(told_hour(book, plan.name, hours), 5)
                for thing, hour in box:
                    self.assertGreater(told_hour(book, plan.name, moved(hours, [thing], 1)), 5)
            for box in earliest([turned(form, 60)], [5], 60):
                hours = [dict(box).get(thing, -FAR) for thing in range(len(plan.givens))]
                self.assertGreaterEqual(told_hour(book, plan.name, hours), 5)
                for thing, hour in box:
                    self.assertLess(told_hour(book, plan.name, moved(hours, [thing], -1)), 5)


class HoldingUp(unittest.TestCase):
    def test_slack_and_gain_as_the_runs_show_them(self):
        for book, plan in CASES:
            form, run = told_form(book, plan.name, 60), told_in_run(book, plan)
            for hours in hours_for(plan, 8, 9):
                now = run(hours)
                for thing in range(len(plan.givens)):
                    turns = slack(form, hours, thing)
                    self.assertEqual(run(moved(hours, [thing], FAR if turns is None else turns)), now)
                    if turns is not None:
                        self.assertGreater(run(moved(hours, [thing], turns + 1)), now)
                    won = gain(form, hours, thing)
                    if won is None:
                        self.assertLess(run(moved(hours, [thing], -FAR)), now - FAR // 2)
                    else:
                        self.assertEqual(run(moved(hours, [thing], -FAR)), now - won)
                        self.assertEqual(run(moved(hours, [thing], -2 * FAR)), now - won)

    def test_ways_and_holders_as_the_runs_show_them(self):
        for book, plan in CASES[::2]:
            form, run, things = told_form(book, plan.name, 60), told_in_run(book, plan), range(len(plan.givens))
            for hours in hours_for(plan, 4, 3):
                now = run(hours)
                for way in ways(form, hours):
                    for smaller in [way] + [tuple(t for t in way if t != left) for left in way]:
                        rest = [thing for thing in things if thing not in smaller]
                        self.assertEqual(run(moved(hours, rest, FAR)) <= now, smaller == way)
                for holder in holders(form, hours, 60):
                    for smaller in [holder] + [tuple(t for t in holder if t != left) for left in holder]:
                        self.assertEqual(run(moved(hours, smaller, 1)) == now + 1, smaller == holder)
                for way, holder in itertools.product(ways(form, hours), holders(form, hours, 60)):
                    self.assertTrue(set(way) & set(holder))


class RoundsOfPlans(unittest.TestCase):
    def test_a_round_gone_by_runs(self):
        for forms in zip(*[some_forms(seed, 12, 3, [-1, 0, 2], 2) for seed in (1, 2, 3)]):
            book = Book([planned(f"p{number}", 3, form) for number, form in enumerate(forms)])
            for start in drawn_hours(7, 4, 3, 9):
                hours = list(start)
                for times in range(5):
                    self.assertEqual(round_hours(list(forms), start, times), hours)
                    gone = round_forms(list(forms), times, 60)
                    self.assertEqual([form_hour(form, start) for form in gone], hours)
                    if is_paper(list(forms), [0, 0, 0], 2):
                        limits = bound([0, 0, 0], 2, start, times)
                        self.assertTrue(all(hour <= limit for hour, limit in zip(hours, limits)))
                    hours = [told_hour(book, plan.name, hours) for plan in book.plans]


class WithoutClockChanceOrFiles(unittest.TestCase):
    def test_asked_again_it_tells_the_same(self):
        for book, plan in CASES[::5]:
            self.assertEqual(forms_of(book, plan.name, 60), forms_of(book, plan.name, 60))
            self.assertEqual(shown(book), shown(book))


if __name__ == "__main__":
    unittest.main()
