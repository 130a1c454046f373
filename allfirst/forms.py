"""Forms: thinned lists of rows, of which the first that is done tells the hour."""

from allfirst.errors import TooMany
from allfirst.rows import is_covered, joined, lowest, row_hour, shifted


def thing_form(thing):
    return [((thing, 0),)]


def waited(form, wait):
    # Shifting all rows alike changes neither their order nor which one lies under which.
    return [shifted(row, wait) for row in form]


def form_hour(form, hours):
    return min([row_hour(row, hours) for row in form])


def first_of(forms, most):
    told = form_within(forms[0], most)
    for form in forms[1:]:
        told = form_within(told + form, most)
    return told


def all_of(forms, most):
    told = form_within(forms[0], most)
    for form in forms[1:]:
        told = form_within(each_joined(told, form), most)
    return told


def put_into(form, forms, most):
    return first_of([put_into_row(row, forms, most) for row in form], most)


def put_into_row(row, forms, most):
    return all_of([waited(forms[thing], wait) for thing, wait in row], most)


def each_joined(form, other):
    # A row with one of the other form's under it is joined with that one to itself, and lies under
    # all that has it joined in. So such rows stand for themselves, and only the others are joined.
    rows = [row for row in form if is_covered(row, other)] + [row for row in other if is_covered(row, form)]
    rest = [row for row in other if not is_covered(row, form)]
    for row in form:
        if not is_covered(row, other):
            rows.extend([joined(row, other_row) for other_row in rest])
    return rows


def form_within(rows, most):
    # One row beyond `most` is enough to refuse; the others need not be thinned.
    kept = lowest(rows, most + 1)
    if len(kept) > most:
        raise TooMany(f"more than {most}")
    return sorted(kept)
