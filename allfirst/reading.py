"""Reading books: a text is read to the book of which it is written, or refused."""

from allfirst.errors import BadRow, NoName
from allfirst.looking import FIGURES, is_name, looked
from allfirst.plan import Book, Plan


class Draft:
    # A plan whose items still have names: which thing is meant is known when all of its rows are read.
    def __init__(self, name):
        self.name = name
        self.givens = []
        self.rows = []


def read(text):
    book = Book([plan_of(draft) for draft in drafts_of(text)])
    looked(book)
    return book


def drafts_of(text):
    drafts = []
    for number, row in enumerate(text.split("\n"), start=1):
        if not takes_row(drafts, number, row):
            raise BadRow(number)
    return drafts


def takes_row(drafts, number, row):
    name = name_behind("plan ", row)
    if name is not None:
        drafts.append(Draft(name))
        return True
    return drafts != [] and takes_thing(drafts[-1], number, row)


def takes_thing(draft, number, row):
    given = name_behind(" given ", row)
    made = made_thing(row)
    if given is not None and draft.rows == []:
        draft.givens.append(given)
        return True
    if made is not None:
        draft.rows.append((number, made))
        return True
    return False


def name_behind(start, row):
    name = row[len(start):]
    return name if row.startswith(start) and is_name(name) else None


def made_thing(row):
    words = row.split(" ")
    if len(words) < 4 or words[0] != "" or not is_name(words[1]):
        return None
    if words[2] in ("all", "first"):
        return with_items(words[1], words[2], words[3:])
    if words[2] == "part" and is_name(words[3]):
        return with_items(words[1], words[3], words[4:])
    return None


def with_items(name, how, words):
    # The blanks stand between items only, so the words are put together again and parted as items are.
    items = [item_of(text) for text in " ".join(words).split(", ")]
    return None if None in items else (name, how, items)


def item_of(text):
    if is_name(text):
        return (text, 0)
    for sign in ("+", "-"):
        sides = text.split(sign)
        if len(sides) == 2 and is_name(sides[0]) and are_figures(sides[1]):
            return (sides[0], int(sign + sides[1]))
    return None


def are_figures(text):
    return 1 <= len(text) <= 30 and text[0] != "0" and all([sign in FIGURES for sign in text])


def plan_of(draft):
    numbers = numbers_of(draft.givens + [made[0] for number, made in draft.rows])
    rows = []
    for number, made in draft.rows:
        rows.append((made[0], made[1], numbered(made[2], numbers, number)))
    return Plan(draft.name, draft.givens, rows)


def numbers_of(names):
    numbers = {}
    for number, name in enumerate(names):
        # Of two things of one name the first is meant.
        numbers.setdefault(name, number)
    return numbers


def numbered(items, numbers, row):
    for name, wait in items:
        if name not in numbers:
            raise NoName(row)
    return tuple([(numbers[name], wait) for name, wait in items])
