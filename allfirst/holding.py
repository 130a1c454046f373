"""Who holds a form up at given hours, and how late or how early each thing may be."""

from allfirst.forms import all_of, form_hour
from allfirst.rows import row_hour, thinned


def slack(form, hours, thing):
    hour = form_hour(form, hours)
    slacks = []
    for row in first_done(form, hours):
        waits = dict(row)
        if thing not in waits:
            return None
        slacks.append(hour - hours[thing] - waits[thing])
    return max(slacks)


def gain(form, hours, thing):
    ends = []
    for row in form:
        rest = [pair for pair in row if pair[0] != thing]
        if rest == []:
            return None
        ends.append(row_hour(rest, hours))
    return form_hour(form, hours) - min(ends)


def ways(form, hours):
    # With waits of 0 alone a row is under another one just where its things are among the other's.
    bare = [tuple([(thing, 0) for thing, wait in row]) for row in first_done(form, hours)]
    return things_of_each(thinned(bare))


def holders(form, hours, most):
    # The form comes later just where each of these rows does; a row does with any one of its last things.
    lasts = [last_things(row, hours) for row in first_done(form, hours)]
    return things_of_each(all_of(lasts, most))


def first_done(form, hours):
    hour = form_hour(form, hours)
    return [row for row in form if row_hour(row, hours) == hour]


def last_things(row, hours):
    hour = row_hour(row, hours)
    return [((thing, 0),) for thing, wait in row if hours[thing] + wait == hour]


def things_of_each(rows):
    return [tuple([thing for thing, wait in row]) for row in rows]
