import random
import re
import unittest

from allfirst.errors import AllError, BadName, BadPart, BadPlan, BadRow, NoName, TooLong
from allfirst.looking import looked
from allfirst.plan import Book, Plan
from allfirst.reading import numbers_of, read
from allfirst.writing import shown

from helper import drawn_book, fields, rich_book

WIDE = 10 ** 30 - 1
WORDS = ("plan", "given", "all", "first", "part")
BOOKS = [drawn_book(seed) for seed in range(50)] + [drawn_book(seed, reach=WIDE) for seed in range(50)]
BOOKS += [rich_book(seed) for seed in range(50)]

DAY = """plan meet
 given a
 given b
 c all a+3, b-2
plan day
 given x
 given y
 m part meet y, x+7
 end first m+1, x, y-5"""

# Rows that are of none of the forms, wherever they stand.
BAD_PLANS = ["plan", "plan ", " plan p", "plan  p", "plan p ", "plan p q", "Plan p", "plan P", "plan 1p", "plan p-q",
             "plan p+1", "plan p,", "plan " + "a" * 13, "plan", "planp", "plan plan", "plan given", "plan all",
             "plan first", "plan part", "plans p", "xplan p", "PLAN p", "plan\\p"]
BAD_GIVENS = ["given g", "  given g", " given", " given ", " given  g", " given g ", " given g h", " given g, h",
              " given g+1", " given G", " given 1g", " given " + "a" * 13, " Given g", " givens g", " given plan",
              " given given", " given all", " given first", " given part", " giveng", " given g~"]
BAD_MADES = ["", " ", "  ", "    ", "x all a", "  x all a", " x  all a", " x all  a", " x all a ", " x all", " x all ",
             " x", " x ", " x part", " x part p", " x part p ", " x part a+1", " x part  a", " x part p  a", " x first",
             " x first ", " x any a", " x ALL a", " x All a", " x al a", " x alls a", " x alla", " xall a", " all a",
             " X all a", " 1x all a", " x1y2z3x1y2z3x all a", " x- all a", " plan all a", " given all a", " all all a",
             " first all a", " part all a", " x plan a", " x given a", " x part all a", " x part first a",
             " x part part a", " x part plan a", " x part P a", " x part 1p a", " x part " + "p" * 13 + " a",
             " x all all a", " x first first a", " x all part p a", " x p a", " x part p, a", " x, y all a"]
BAD_ITEMS = ["A", "1a", "a" * 13, "all", "first", "part", "plan", "given", "a b", "a,b", "a ,b", "a,  b", "a,", "a, ",
             ",a", ", a", "a,, b", "a, , b", "a;b", "a. b", "a and b", "a, b,", "a, b ", "a, A", "a, 1",
             "a+", "a-", "a+0", "a-0", "a+00", "a+01", "a-01", "a+007", "a+" + "1" * 31, "a-" + "9" * 31,
             "a+1" + "0" * 30, "a+0" + "1" * 29, "a++1", "a--1", "a+-1", "a-+1", "a+1+1", "a-1-1", "a+1-1", "a-1+1",
             "+1", "-1", "+a", "-a", "1+a", "a +1", "a+ 1", "a + 1", "a+1 ", "a*2", "a=1", "a+x", "a+1x", "a+x1",
             "a+1_0", "a+1.0", "a+1e3", "a+0x1", "a1+b", "a+1,b", "a+1, b+", "a+1, b-01", "+", "-", "a~1", "a/1"]
BAD_ROWS = BAD_PLANS + BAD_GIVENS + BAD_MADES
BAD_ROWS += [f" x {how} {items}" for items in BAD_ITEMS for how in ("all", "first", "part p")]


def names_of(plan):
    return plan[1] + [row[1] for row in plan[2]]


def split_by_the_words(text):
    """The plans of a text, with the numbers of their rows and the names of their items, or BadRow's number."""
    name, item = "([a-z][a-z0-9]{0,11})", "[a-z][a-z0-9]{0,11}(?:[+-][1-9][0-9]{0,29})?"
    plans = []
    for number, row in enumerate(text.split("\n"), start=1):
        plan = re.fullmatch(f"plan {name}", row)
        given = re.fullmatch(f" given {name}", row)
        made = re.fullmatch(f" {name} (all|first|part {name}) ({item}(?:, {item})*)", row)
        if plan and plan[1] not in WORDS:
            plans.append((plan[1], [], []))
        elif given and given[1] not in WORDS and plans and plans[-1][2] == []:
            plans[-1][1].append(given[1])
        elif made and made[1] not in WORDS and made[3] not in WORDS and plans:
            items = [re.fullmatch(f"{name}(.*)", one).groups() for one in made[4].split(", ")]
            if any(thing in WORDS for thing, wait in items):
                return number
            plans[-1][2].append((number, made[1], made[3] or made[2], items))
        else:
            return number
    return plans


def read_by_the_words(text):
    """What reading comes to: the class of the refusal and its row, or the book's fields."""
    plans = split_by_the_words(text)
    if isinstance(plans, int):
        return BadRow, plans
    for plan in plans:
        for number, made, how, items in plan[2]:
            if any(name not in names_of(plan) for name, wait in items):
                return NoName, number
    told = []
    for plan in plans:
        rows = [(made, how, tuple((names_of(plan).index(name), int(wait or 0)) for name, wait in items))
                for number, made, how, items in plan[2]]
        told.append(Plan(plan[0], plan[1], rows))
    try:
        looked(Book(told))
    except AllError as refusal:
        return type(refusal), None
    return fields(Book(told))


def what_comes(text):
    try:
        return fields(read(text))
    except AllError as refusal:
        return type(refusal), getattr(refusal, "row", None)


class Read(unittest.TestCase):
    def test_a_book_of_one_plan(self):
        book = read("plan one\n given a\n b first a+1, a-1")
        self.assertEqual(fields(book), [("one", ["a"], [("b", "first", ((0, 1), (0, -1)))])])

    def test_a_book_of_two_plans_with_a_part(self):
        meet = ("meet", ["a", "b"], [("c", "all", ((0, 3), (1, -2)))])
        day = ("day", ["x", "y"], [("m", "meet", ((1, 0), (0, 7))), ("end", "first", ((2, 1), (0, 0), (1, -5)))])
        self.assertEqual(fields(read(DAY)), [meet, day])

    def test_waits(self):
        for text, wait in (("a", 0), ("a+1", 1), ("a-1", -1), ("a+10", 10), ("a-90", -90), ("a+" + "9" * 30, WIDE),
                           ("a-" + "9" * 30, -WIDE), ("a+1" + "0" * 29, 10 ** 29)):
            told = read(f"plan one\n given a\n b all {text}")
            self.assertEqual(told.plans[0].rows, [("b", "all", ((0, wait),))])

    def test_kinds(self):
        book = read(DAY)
        self.assertIs(type(book), Book)
        self.assertIs(type(book.plans), list)
        for plan in book.plans:
            self.assertIs(type(plan), Plan)
            self.assertEqual((type(plan.name), type(plan.givens), type(plan.rows)), (str, list, list))
            for made, how, items in plan.rows:
                self.assertEqual((type(made), type(how), type(items)), (str, str, tuple))
                self.assertEqual({type(item) for item in items}, {tuple})
                self.assertEqual({type(number) for item in items for number in item}, {int})

    def test_each_time_a_book_of_its_own(self):
        one, other = read(DAY), read(DAY)
        one.plans[0].rows.clear()
        one.plans[0].givens.clear()
        one.plans.pop()
        self.assertEqual(fields(other), fields(read(DAY)))
        lists = [inner for book in (other, read(DAY)) for plan in book.plans for inner in (plan.givens, plan.rows)]
        self.assertEqual(len({id(inner) for inner in lists}), len(lists))

    def test_what_is_written_is_read_to_the_same_book(self):
        for book in BOOKS:
            looked(book)
            self.assertEqual(fields(read(shown(book))), fields(book))

    def test_as_much_as_is_let(self):
        things = [f"g{number}" for number in range(12)]
        rows = [(f"m{number}", "first", tuple((number + item % 12, WIDE - item) for item in range(40)))
                for number in range(40)]
        book = Book([Plan(f"p{number}", things, rows) for number in range(20)])
        looked(book)
        self.assertEqual(fields(read(shown(book))), fields(book))

    def test_what_is_read_is_just_what_is_written_of_it(self):
        for text in ("plan one\n given a\n b first a+1, a-1", DAY):
            self.assertEqual(shown(read(text)), text)


class RefusedWithBadRow(unittest.TestCase):
    def at(self, number, text):
        with self.assertRaises(BadRow) as taken:
            read(text)
        self.assertIs(type(taken.exception), BadRow)
        self.assertEqual(taken.exception.row, number, repr(text))
        self.assertIs(type(taken.exception.row), int)

    def test_the_empty_text(self):
        self.at(1, "")

    def test_line_feeds_alone(self):
        self.at(1, "\n")
        self.at(1, "\n\n\n")

    def test_a_line_feed_at_the_end_or_ahead(self):
        self.at(10, DAY + "\n")
        self.at(10, DAY + "\n\n")
        self.at(1, "\n" + DAY)
        self.at(5, DAY.replace("\nplan day", "\n\nplan day"))

    def test_each_bad_row_at_the_first_row(self):
        for row in BAD_ROWS:
            self.at(1, row)
            self.at(1, row + "\n" + DAY)

    def test_each_bad_row_in_the_middle(self):
        for row in BAD_ROWS:
            self.at(5, DAY.replace("\nplan day", "\n" + row + "\nplan day"))

    def test_each_bad_row_among_the_given_things(self):
        for row in BAD_ROWS:
            self.at(3, DAY.replace("\n given b", "\n" + row))

    def test_each_bad_row_at_the_last_row(self):
        for row in BAD_ROWS:
            self.at(10, DAY + "\n" + row)

    def test_rows_near_those_with_nothing_wrong(self):
        for row in (" x all a", " x first a", " x all a, b", " x all a+1, b-9", " x all a+" + "1" * 30, " plans all a",
                    " x1y2z3x1y2z3 all a", " alls first b", " x part p a", " x part p a-1"):
            text = f"plan p\n given g\n end all g\nplan q\n given a\n given b\n{row}"
            self.assertEqual(shown(read(text)), text)

    def test_a_first_row_that_is_no_plan_s(self):
        self.at(1, " given a\nplan one\n given a\n b all a")
        self.at(1, " b all a")
        self.at(1, " given a")
        self.at(1, " b all a\nplan one\n given a\n b all a")

    def test_a_given_thing_behind_a_made_one(self):
        self.at(4, "plan one\n given a\n b all a\n given c")
        self.at(5, "plan one\n given a\n b all a\n c all a\n given d\n e all d")
        self.at(3, "plan one\n b all a\n given a")
        self.at(9, DAY.replace("\n end first", "\n given z\n end first"))
        self.at(10, DAY + "\n given z")

    def test_a_given_thing_in_a_plan_behind_one_with_made_things(self):
        self.assertEqual([plan.givens for plan in read(DAY).plans], [["a", "b"], ["x", "y"]])

    def test_the_first_of_several(self):
        rows = DAY.split("\n")
        for first in range(len(rows)):
            for second in range(first + 1, len(rows)):
                bad = list(rows)
                bad[first], bad[second] = "bad", " "
                self.at(first + 1, "\n".join(bad))

    def test_a_row_behind_a_hundred(self):
        text = "\n".join(["plan one"] + [f" given g{number}" for number in range(200)] + [" x any g0"])
        self.at(202, text)

    def test_ahead_of_all_else(self):
        self.at(3, "plan one\n b all nobody\n")
        self.at(6, "plan one\n given a\n given a\nplan one\n c part none d\n c all a+0")


class RefusedWithNoName(unittest.TestCase):
    def at(self, number, text):
        with self.assertRaises(NoName) as taken:
            read(text)
        self.assertIs(type(taken.exception), NoName)
        self.assertEqual(taken.exception.row, number, repr(text))
        self.assertIs(type(taken.exception.row), int)

    def test_a_name_that_no_thing_has(self):
        for how in ("all", "first", "part one"):
            self.at(3, f"plan one\n given a\n b {how} c")
            self.at(3, f"plan one\n given a\n b {how} a, c+1, a")
            self.at(4, f"plan one\n given a\n b all a\n c {how} a, d-1\n e all f")

    def test_the_first_of_several(self):
        self.at(4, "plan one\n given a\n b all a\n c all d\n e all f")
        self.at(3, "plan one\n given a\n b all x\n c all a\nplan two\n given a\n b all x")

    def test_in_the_second_plan(self):
        self.at(8, DAY.replace("y, x+7", "y, z+7"))
        self.at(9, DAY.replace("y-5", "z-5"))

    def test_names_of_another_plan_s_things_and_of_plans(self):
        self.at(9, DAY.replace("y-5", "a-5"))
        self.at(9, DAY.replace("y-5", "day"))
        self.at(4, DAY.replace("b-2", "x"))
        self.at(4, DAY.replace("b-2", "meet"))

    def test_a_plan_without_things_of_that_name_or_without_given_things(self):
        self.at(2, "plan one\n b all a")
        self.at(2, "plan one\n b all a\nplan two\n given a\n c all a")

    def test_behind_bad_row_wherever_it_stands(self):
        for row in BAD_ROWS[::7]:
            text = "plan one\n given a\n b all nobody\n" + row
            self.assertEqual(what_comes(text), (BadRow, 4))
            self.assertEqual(what_comes(text + "\nplan two"), (BadRow, 4))
        self.assertEqual(what_comes("plan one\n given a\n b all nobody\nplan two\n c all c\n given d"), (BadRow, 6))

    def test_ahead_of_the_refusals_of_books(self):
        self.at(7, "plan one\n given a\n given a\n b all a\nplan one\n given c\n d all e")
        self.at(4, "plan one\n given a\n b part none a\n c all x")
        self.at(23, "\n".join(f"plan p{number}" for number in range(22)) + "\n b all a")

    def test_things_behind_have_names_too(self):
        self.assertEqual(what_comes("plan one\n given a\n b all c\n c all a"), (BadPlan, None))
        self.assertEqual(what_comes("plan one\n given a\n b all b"), (BadPlan, None))
        self.assertEqual(what_comes("plan one\n b all b"), (BadPlan, None))


class RefusedAsBooksAre(unittest.TestCase):
    def refused(self, error, *rows):
        self.assertEqual(what_comes("\n".join(rows)), (error, None))

    def test_bad_name(self):
        one = ("plan one", " given a", " b all a")
        self.refused(BadName, *one, *one)
        self.refused(BadName, "plan one", " given a", " given a", " b all a")
        self.refused(BadName, "plan one", " given a", " a all a")
        self.refused(BadName, "plan one", " given a", " b all a", " b all a")

    def test_bad_plan(self):
        self.refused(BadPlan, "plan one")
        self.refused(BadPlan, "plan one", " given a")
        self.refused(BadPlan, "plan one", " given a", "plan two", " given a", " b all a")
        self.refused(BadPlan, "plan one", " given a", " b all a", "plan two")
        self.refused(BadPlan, "plan one", *[f" given a{number}" for number in range(13)], " b all a0")
        self.refused(BadPlan, "plan one", " given a", *[f" b{number} all a" for number in range(41)])
        self.refused(BadPlan, "plan one", " given a", " b all " + ", ".join(["a"] * 41))
        books = [f"plan p{number}\n given a\n b all a" for number in range(21)]
        self.refused(BadPlan, *books)
        self.assertEqual(len(read("\n".join(books[:20])).plans), 20)

    def test_bad_part(self):
        one = ("plan one", " given a", " b all a")
        self.refused(BadPart, "plan one", " given a", " b part none a")
        self.refused(BadPart, "plan one", " given a", " b part one a")
        self.refused(BadPart, "plan two", " given a", " b part one a", *one)
        self.refused(BadPart, *one, "plan two", " given a", " b part one a, a")

    def test_too_long(self):
        rows = ["plan p0", " given a", " b all a"]
        for number in range(1, 12):
            rows += [f"plan p{number}", " given a", f" b part p{number - 1} a", f" c part p{number - 1} b"]
        self.refused(TooLong, *rows)
        self.assertEqual(len(read("\n".join(rows[:-8])).plans), 10)

    def test_in_their_order(self):
        long = ["plan p0", " given a", " b all a"]
        for number in range(1, 12):
            long += [f"plan p{number}", " given a", f" b part p{number - 1} a", f" c part p{number - 1} b"]
        part = ["plan x", " given a", " b part none a"]
        plan = ["plan y", " given a"]
        name = ["plan z", " given a", " a all a"]
        row_lists = [(BadName, name), (BadPlan, plan), (BadPart, part), (TooLong, long)]
        for number, (error, rows) in enumerate(row_lists):
            for later, others in row_lists[number + 1:]:
                self.refused(error, *rows, *others)
                self.refused(error, *others, *rows)

    def test_of_two_things_of_one_name_the_first_is_meant(self):
        # Such a text is refused whichever is meant, so the names' numbers are asked for besides.
        self.refused(BadName, "plan one", " given a", " b all a", " c all b", " b all a")
        self.refused(BadName, "plan one", " given a", " b all b", " b all a")
        self.assertEqual(numbers_of(["a", "b", "a", "c", "b"]), {"a": 0, "b": 1, "c": 3})


class ByTheWords(unittest.TestCase):
    def changed(self, chance, text):
        signs = "\n\n  ,,++--0019azgm~APp"
        words = ["plan ", " given ", " all ", " first ", " part ", ", ", "+1", "-0", "g0", "m1", "one", "\n"]
        at, end = sorted([chance.randrange(len(text) + 1), chance.randrange(len(text) + 1)])
        rows = text.split("\n")
        one, other = chance.randrange(len(rows)), chance.randrange(len(rows))
        way = chance.randrange(7)
        if way == 0:
            return text[:at] + text[at + 1:]
        if way == 1:
            return text[:at] + chance.choice(signs) + text[at:]
        if way == 2:
            return text[:at] + chance.choice(signs) + text[at + 1:]
        if way == 3:
            return text[:at] + chance.choice(words) + text[at:]
        if way == 4:
            rows[one], rows[other] = rows[other], rows[one]
            return "\n".join(rows)
        if way == 5:
            return "\n".join(rows[:one] + rows[one + 1:])
        return "\n".join(rows[:one] + [rows[other]] + rows[one:])

    def test_texts_of_books_that_are_changed(self):
        chance = random.Random(91)
        came = {}
        for turn in range(6000):
            text = shown(chance.choice(BOOKS))
            for change in range(chance.randint(1, 2)):
                text = self.changed(chance, text)
            told, expected = what_comes(text), read_by_the_words(text)
            self.assertEqual(told, expected, repr(text))
            if isinstance(told, list):
                self.assertEqual(shown(read(text)), text)
            kind = told[0] if isinstance(told, tuple) else None
            came[kind] = came.get(kind, 0) + 1
        for kind in (None, BadRow, NoName, BadName, BadPlan, BadPart):
            self.assertGreater(came.get(kind, 0), 20, kind)

    def test_texts_of_drawn_signs(self):
        chance = random.Random(92)
        for turn in range(2000):
            text = "".join(chance.choice(["plan a", " given a", " a", " b", " all", "\n", ", ", "+1", "-", " part"])
                           for piece in range(chance.randint(0, 12)))
            self.assertEqual(what_comes(text), read_by_the_words(text), repr(text))


if __name__ == "__main__":
    unittest.main()
