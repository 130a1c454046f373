"""Running plans: the hours of all things of a plan from those of its given things."""

from allfirst.plan import plan_by


def hours_of(book, name, hours):
    told = list(hours)
    for made, how, items in plan_by(book, name).rows:
        told.append(made_hour(book, how, [told[thing] + wait for thing, wait in items]))
    return told


def told_hour(book, name, hours):
    return hours_of(book, name, hours)[-1]


def made_hour(book, how, hours):
    if how == "all":
        return max(hours)
    if how == "first":
        return min(hours)
    return told_hour(book, how, hours)
