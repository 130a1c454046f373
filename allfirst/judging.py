"""From text to answer: plans of a text compared, kept to a deadline, and held up."""

from allfirst.boxes import latest
from allfirst.errors import Unlike
from allfirst.forms import form_hour
from allfirst.holding import gain, slack
from allfirst.lags import compared
from allfirst.plan import plan_by
from allfirst.planforms import told_form
from allfirst.reading import read


def judged(text, one, other, most):
    book = read(text)
    many = len(plan_by(book, one).givens)
    if len(plan_by(book, other).givens) != many:
        raise Unlike(f"{one!r} and {other!r} have not as many given things")
    return compared(told_form(book, one, most), told_form(book, other, most), many)


def kept_by(text, name, deadline, most):
    book = read(text)
    form = told_form(book, name, most)
    givens = plan_by(book, name).givens
    return [box_line(box, givens) for box in latest([form], [deadline], most)]


def held_up(text, name, hours, most):
    book = read(text)
    form = told_form(book, name, most)
    lines = [str(form_hour(form, hours))]
    for thing, given in enumerate(plan_by(book, name).givens):
        later = turns_text(slack(form, hours, thing))
        earlier = turns_text(gain(form, hours, thing))
        lines.append(f"{given} {later} {earlier}")
    return lines


def box_line(box, givens):
    return ", ".join([hour_text(givens[thing], hour) for thing, hour in box])


def hour_text(name, hour):
    return f"{name} {hour}"


def turns_text(turns):
    return "endless" if turns is None else str(turns)
