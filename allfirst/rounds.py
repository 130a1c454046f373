"""Rounds: as many forms as there are things, gone from hours to hours again and again."""

from allfirst.forms import form_hour, put_into, thing_form


def round_hours(forms, hours, times):
    told = list(hours)
    for turn in range(times):
        told = hours_of_forms(forms, told)
    return told


def round_forms(forms, times, most):
    told = [thing_form(thing) for thing in range(len(forms))]
    for turn in range(times):
        told = forms_with(forms, told, most)
    return told


def is_paper(forms, hours, pace):
    told = hours_of_forms(forms, hours)
    return all([after <= hour + pace for after, hour in zip(told, hours)])


def bound(hours, pace, start, times):
    most_ahead = max([own - hour for own, hour in zip(start, hours)])
    return [hour + times * pace + most_ahead for hour in hours]


def hours_of_forms(forms, hours):
    return [form_hour(form, hours) for form in forms]


def forms_with(forms, put, most):
    return [put_into(form, put, most) for form in forms]
