"""Plans as forms, and forms as plans."""

from allfirst.forms import all_of, first_of, put_into, thing_form, waited
from allfirst.plan import Plan, plan_by


def forms_of(book, name, most):
    return forms_knowing(book, name, most, {})


def told_form(book, name, most):
    return forms_of(book, name, most)[-1]


def planned(name, many, form):
    rows = [(f"r{number}", "all", row) for number, row in enumerate(form)]
    rows.append(("end", "first", tuple([(many + number, 0) for number in range(len(form))])))
    return Plan(name, [f"g{thing}" for thing in range(many)], rows)


def forms_knowing(book, name, most, known):
    plan = plan_by(book, name)
    told = [thing_form(thing) for thing in range(len(plan.givens))]
    for made, how, items in plan.rows:
        forms = [waited(told[thing], wait) for thing, wait in items]
        told.append(made_form(book, how, forms, most, known))
    return told


def made_form(book, how, forms, most, known):
    if how == "all":
        return all_of(forms, most)
    if how == "first":
        return first_of(forms, most)
    # A part has the same forms wherever it stands, so they are made once, and only if some row asks for them.
    if how not in known:
        known[how] = forms_knowing(book, how, most, known)[-1]
    return put_into(known[how], forms, most)
