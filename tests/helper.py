"""Small families of rows, forms, hours and books for the tests, and what the document's words make of them."""

import functools
import itertools
import random

from allfirst.errors import TooMany
from allfirst.plan import Book, Plan
from allfirst.rows import joined, shifted, thinned


def all_rows(things, waits):
    """Every row over the things 0, 1 .. with waits of these."""
    rows = []
    for choice in itertools.product([None] + list(waits), repeat=things):
        row = tuple((thing, wait) for thing, wait in enumerate(choice) if wait is not None)
        if row:
            rows.append(row)
    return rows


def all_hours(things, hours):
    return [list(choice) for choice in itertools.product(hours, repeat=things)]


def some_forms(seed, count, things, waits, rows):
    """As many forms of at most so many rows; the same ones for the same seed."""
    chance = random.Random(seed)
    family = all_rows(things, waits)
    return [thinned(chance.sample(family, chance.randint(1, rows))) for turn in range(count)]


def parting_hours(row, many, late):
    """Hours at which the row is done at nought and which no row keeps but one that is under it."""
    hours = [late] * many
    for thing, wait in row:
        hours[thing] = -wait
    return hours


def drawn_hours(seed, count, many, reach):
    """As many lists of hours from -reach to reach; the same ones for the same seed."""
    chance = random.Random(seed)
    return [[chance.randint(-reach, reach) for thing in range(many)] for turn in range(count)]


def drawn_book(seed, reach=9, many=3):
    """A book of four plans of at most so many given things, with waits from -reach to reach."""
    chance = random.Random(seed)
    plans = []
    for name in ("one", "two", "three", "four"):
        givens = [f"g{number}" for number in range(chance.randint(1, many))]
        rows = []
        for number in range(chance.randint(1, 4)):
            part = chance.choice(plans + [None, None])
            how = chance.choice(["all", "first"]) if part is None else part.name
            count = chance.randint(1, 3) if part is None else len(part.givens)
            things = range(len(givens) + number)
            items = tuple((chance.choice(things), chance.randint(-reach, reach)) for item in range(count))
            rows.append((f"m{number}", how, items))
        plans.append(Plan(name, givens, rows))
    return Book(plans)


def rich_book(seed):
    """A book of two plans, one a part of the other, with forms of more rows than those of drawn_book."""
    chance = random.Random(seed)
    inner = layered_plan(chance, "inner", 3, 4, None)
    return Book([inner, layered_plan(chance, "outer", chance.choice((4, 5, 6)), 7, inner)])


def layered_plan(chance, name, many, rows, part):
    """A plan of firsts of alls of firsts and so on, each of some of the last things, with a part in the middle."""
    made = []
    for number in range(rows):
        ahead = many + number
        is_part = part is not None and number == rows // 2
        how = part.name if is_part else ("first", "all")[ahead % 2]
        chosen = chance.sample(range(max(0, ahead - 5), ahead), 3)
        made.append((f"m{number}", how, tuple((thing, chance.randint(-9, 9)) for thing in chosen)))
    return Plan(name, [f"g{number}" for number in range(many)], made)


def fields(book):
    """All that a book holds, as values that can be compared."""
    return [(plan.name, list(plan.givens), list(plan.rows)) for plan in book.plans]


def first_by_the_words(forms):
    """The forms that are met on the way, each made anew of the rows of the first so many."""
    return [thinned(sum(forms[:count], [])) for count in range(1, len(forms) + 1)]


def all_by_the_words(forms):
    choices = [itertools.product(*forms[:count]) for count in range(1, len(forms) + 1)]
    return [thinned([functools.reduce(joined, rows) for rows in choice]) for choice in choices]


def put_by_the_words(form, forms):
    met, ends = [], []
    for row in form:
        met += all_by_the_words([[shifted(inner, wait) for inner in forms[thing]] for thing, wait in row])
        ends.append(met[-1])
    return met + first_by_the_words(ends)


def over_by_the_words(column, other):
    waits = dict(other)
    return all(thing in waits and waits[thing] <= wait for thing, wait in column)


def thinned_by_the_words(columns):
    return sorted({c for c in columns if not any(o != c and over_by_the_words(o, c) for o in columns)})


def combined(pairs, chosen):
    """One tuple of these pairs, each thing once, with the wait that is chosen of its waits."""
    waits = {}
    for thing, wait in pairs:
        waits[thing] = chosen(wait, waits.get(thing, wait))
    return tuple(sorted(waits.items()))


def hold_to(case, met, asked, handed):
    """Asked with each `most` it refuses just where one of the lists that are met has more, else tells the last."""
    greatest = max(len(told) for told in met)
    for most in range(1, greatest + 3):
        if most < greatest:
            case.assertRaises(TooMany, asked, *handed, most)
        else:
            case.assertEqual(asked(*handed, most), met[-1])
