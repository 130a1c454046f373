"""Rows: tuples of pairs (thing, wait), done when all of their things have come and waited."""


def row_hour(row, hours):
    return max([hours[thing] + wait for thing, wait in row])


def under(row, other):
    return fits_in(row, dict(other))


def fits_in(row, waits):
    for thing, wait in row:
        if thing not in waits or wait > waits[thing]:
            return False
    return True


def joined(row, other):
    waits = dict(row)
    for thing, wait in other:
        waits[thing] = max(wait, waits.get(thing, wait))
    return tuple(sorted(waits.items()))


def shifted(row, wait):
    return tuple([(thing, own + wait) for thing, own in row])


def thinned(rows):
    return sorted(lowest(rows, len(rows)))


def lowest(rows, enough):
    # What lies under a row has fewer things, or the same ones and so is the smaller tuple: it comes
    # ahead of the row here. So a row that is kept stays kept, and one may stop when there are enough.
    kept = []
    for row in sorted(sorted(set(rows)), key=len):
        if len(kept) == enough:
            break
        if not is_covered(row, kept):
            kept.append(row)
    return kept


def is_covered(row, kept):
    waits = dict(row)
    for other in kept:
        if fits_in(other, waits):
            return True
    return False
