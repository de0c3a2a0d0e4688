"""The TRUE TABLE of LATE WORKS, and what can be in time by it."""

from benchdays.latechecker import by_dues, full_weight, late_coming, no_more, put_behind
from benchdays.works import weight_of


def next_row(above, work):
    """The row of the TRUE TABLE for the work, below another one."""
    row = []
    for w, kept in enumerate(above):
        more = put_behind(above, work, w)
        row.append(kept if no_more(kept, more) else more)
    return tuple(row)


def table_of(works):
    """The TRUE TABLE of LATE WORKS."""
    coming = late_coming(works)
    rows = [(coming,) + (None,) * full_weight(works)]
    for j in by_dues(works):
        rows.append(next_row(rows[-1], works[j]))
    return tuple(rows)


def in_time(works, w):
    """A shortest SET that CAN BE IN TIME and weighs just w; None where there is none."""
    table = table_of(works)
    if w < 0 or w > full_weight(works) or table[-1][w] is None:
        return None
    some = []
    for k, j in reversed(list(enumerate(by_dues(works)))):
        # An entry that isn't the one above it was made by putting this work behind.
        if table[k + 1][w] != table[k][w]:
            some.append(j)
            w -= weight_of(works[j])
    return tuple(sorted(some))
