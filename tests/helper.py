"""Small families of rows, forms and hours that the tests walk through."""

import itertools
import random

from allfirst.rows import thinned


def all_rows(things, waits):
    """Every row over the things 0, 1 .. with waits of these."""
    rows = []
    for choice in itertools.product([None] + list(waits), repeat=things):
        row = tuple((thing, wait) for thing, wait in enumerate(choice) if wait is not None)
        if row:
            rows.append(row)
    return rows


def all_hours(things, hours):
    return [list(choice) for choice in itertools.product(hours, repeat=things)]


def some_forms(seed, count, things, waits, rows):
    """As many forms of at most so many rows; the same ones for the same seed."""
    chance = random.Random(seed)
    family = all_rows(things, waits)
    return [thinned(chance.sample(family, chance.randint(1, rows))) for turn in range(count)]


def parting_hours(row, many, late):
    """Hours at which the row is done at nought and which no row keeps but one that is under it."""
    hours = [late] * many
    for thing, wait in row:
        hours[thing] = -wait
    return hours
