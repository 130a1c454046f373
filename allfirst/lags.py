"""Lags: by how many turns a form may come later than another one, and hours at which it does."""


def lag(one, other):
    nearest = nearest_rows(one, other)
    if None in nearest:
        return None
    return max([more for more, number in nearest])


def lag_paper(one, other):
    nearest = nearest_rows(one, other)
    if None in nearest:
        return None
    return [number for more, number in nearest]


def later_by(one, other, turns, many):
    for row in other:
        nearest = nearest_row(one, row)
        if nearest is None or nearest[0] >= turns:
            return hours_done_at_nought(row, turns - least_wait(one), many)
    return None


def compared(one, other, many):
    return (later_by(other, one, 1, many), later_by(one, other, 1, many))


def nearest_rows(one, other):
    return [nearest_row(one, row) for row in other]


def nearest_row(one, row):
    # Told with its number, as a pair, since both the lag and its paper come of it.
    told = None
    for number, own in enumerate(one):
        more = lag_of_row(own, row)
        if more is not None and (told is None or more < told[0]):
            told = (more, number)
    return told


def lag_of_row(row, other):
    waits = dict(other)
    for thing, wait in row:
        if thing not in waits:
            return None
    return max([wait - waits[thing] for thing, wait in row])


def hours_done_at_nought(row, late, many):
    # All other things come so late that no row with one of them is done ahead of the asked turns.
    hours = [late] * many
    for thing, wait in row:
        hours[thing] = -wait
    return hours


def least_wait(form):
    return min([min([wait for thing, wait in row]) for row in form])
