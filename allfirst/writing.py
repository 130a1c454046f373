"""Writing books as texts, one row for each plan, given thing and made thing."""


def shown(book):
    rows = []
    for plan in book.plans:
        rows.extend(plan_rows(plan))
    return "\n".join(rows)


def plan_rows(plan):
    name = plan.name
    things = plan.givens + [made for made, how, items in plan.rows]
    told = [f"plan {name}"] + [f" given {given}" for given in plan.givens]
    return told + [made_row(made, how, items, things) for made, how, items in plan.rows]


def made_row(made, how, items, things):
    way = how if how in ("all", "first") else f"part {how}"
    texts = ", ".join([item_text(things[thing], wait) for thing, wait in items])
    return f" {made} {way} {texts}"


def item_text(name, wait):
    if wait == 0:
        return name
    # A number below nought brings its own sign.
    return f"{name}+{wait}" if wait > 0 else f"{name}{wait}"
