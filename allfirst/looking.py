"""Looking at books: which ones are let, and what weight their plans have."""

from allfirst.errors import BadName, BadPart, BadPlan, TooLong
from allfirst.plan import plan_by

LETTERS = "abcdefghijklmnopqrstuvwxyz"
FIGURES = "0123456789"
KEPT_WORDS = ("plan", "given", "all", "first", "part")


def is_name(text):
    if not 1 <= len(text) <= 12 or text in KEPT_WORDS or text[0] not in LETTERS:
        return False
    return all([sign in LETTERS or sign in FIGURES for sign in text])


def weight(book, name):
    plan = plan_by(book, name)
    return weights(book)[plan.name]


def looked(book):
    # Each look goes through the whole book, for the order of the refusals goes ahead of that of the plans.
    look_at_names(book)
    look_at_plans(book)
    look_at_parts(book)
    look_at_weights(book)


def look_at_names(book):
    if not are_names([plan.name for plan in book.plans]):
        raise BadName("a plan's name is no name or stands twice")
    for plan in book.plans:
        if not are_names(plan.givens + [name for name, how, items in plan.rows]):
            raise BadName("a thing's name is no name or stands twice in its plan")


def are_names(texts):
    return all([is_name(text) for text in texts]) and len(set(texts)) == len(texts)


def look_at_plans(book):
    if not 1 <= len(book.plans) <= 20:
        raise BadPlan("a book has 1 to 20 plans")
    for plan in book.plans:
        if not 1 <= len(plan.givens) <= 12:
            raise BadPlan("a plan has 1 to 12 given things")
        if not 1 <= len(plan.rows) <= 40:
            raise BadPlan("a plan has 1 to 40 rows")
        look_at_items(plan)


def look_at_items(plan):
    ahead = len(plan.givens)
    for name, how, items in plan.rows:
        if not 1 <= len(items) <= 40:
            raise BadPlan(f"{name!r} has not 1 to 40 items")
        for thing, wait in items:
            if not 0 <= thing < ahead:
                raise BadPlan(f"an item of {name!r} is no thing ahead of it")
            if abs(wait) >= 10 ** 30:
                raise BadPlan(f"a wait of {name!r} has more than 30 figures")
        ahead += 1


def look_at_parts(book):
    givens = {}
    for plan in book.plans:
        for name, how, items in plan.rows:
            if is_part(how) and givens.get(how) != len(items):
                raise BadPart(f"{name!r} is made by no plan ahead that has as many given things as it has items")
        givens[plan.name] = len(plan.givens)


def look_at_weights(book):
    for name, own in weights(book).items():
        if own > 2000:
            raise TooLong(f"plan {name!r} has a weight of more than 2000")


def weights(book):
    # Each plan stands behind its parts, so it is weighed once, however often it is a part itself.
    told = {}
    for plan in book.plans:
        parts = [told[how] for name, how, items in plan.rows if is_part(how)]
        told[plan.name] = len(plan.rows) + sum(parts)
    return told


def is_part(how):
    return how not in ("all", "first")
