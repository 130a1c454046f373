"""Columns: tuples of pairs like rows, done as soon as the first of their things has come and waited."""

from allfirst.forms import all_of
from allfirst.rows import thinned, under


def column_hour(column, hours):
    return min([hours[thing] + wait for thing, wait in column])


def columns_hour(columns, hours):
    return max([column_hour(column, hours) for column in columns])


def over(column, other):
    return under(opposite(column), opposite(other))


def thinned_columns(columns):
    return sorted(opposites(thinned(opposites(columns))))


def turned(form, most):
    return sorted(opposites(all_of([single_rows(opposite(row)) for row in form], most)))


def turned_back(columns, most):
    return all_of([single_rows(column) for column in columns], most)


def meeting(row, column):
    waits = dict(column)
    for thing, wait in row:
        if thing in waits and waits[thing] <= wait:
            return thing
    return None


def opposite(column):
    # With the sign of every hour and wait turned the least is the greatest: what holds of rows then
    # holds of columns, so they need no reckoning of their own.
    return tuple([(thing, -wait) for thing, wait in column])


def opposites(columns):
    return [opposite(column) for column in columns]


def single_rows(column):
    # The form of a column by itself, for it is done with the first of its pairs.
    return [(pair,) for pair in column]
