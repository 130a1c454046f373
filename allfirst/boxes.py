"""Boxes: the hours of things that keep deadlines and floors."""

from allfirst.columns import opposites
from allfirst.forms import all_of, waited


def latest(forms, deadlines, most):
    ahead = [waited(form, -deadline) for form, deadline in zip(forms, deadlines)]
    # A row is done by nought just where each of its things comes at its wait below nought or earlier.
    return sorted(opposites(all_of(ahead, most)))


def earliest(lists, floors, most):
    # Columns of the first of some are, with all signs turned, rows of all of them; a thing's wait in
    # these is just the hour that it may not come ahead of.
    return all_of([waited(opposites(columns), floor) for columns, floor in zip(lists, floors)], most)


def keeps_latest(box, hours):
    return all([hours[thing] <= hour for thing, hour in box])


def keeps_earliest(box, hours):
    return all([hours[thing] >= hour for thing, hour in box])


def windows(latest_ones, earliest_ones):
    told = []
    for late in latest_ones:
        told.extend([(late, early) for early in earliest_ones if can_keep_both(late, early)])
    return told


def can_keep_both(late, early):
    ends = dict(late)
    return all([ends.get(thing, hour) >= hour for thing, hour in early])
