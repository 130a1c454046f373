"""Plans and books. They are kept as they are handed in; allfirst.looking tells whether a book is let."""

from allfirst.errors import NoPlan


class Plan:
    def __init__(self, name, givens, rows):
        self.name = name
        self.givens = list(givens)
        self.rows = list(rows)


class Book:
    def __init__(self, plans):
        self.plans = list(plans)


def plan_by(book, name):
    for plan in book.plans:
        if plan.name == name:
            return plan
    raise NoPlan(f"no plan is called {name!r}")
