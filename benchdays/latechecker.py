"""The late checker: the late weight that a TABLE shows, whoever wrote it."""

from benchdays.errors import NoPaper
from benchdays.plain import is_number, is_tuple_of
from benchdays.works import one_coming, refuse_other_costs, weight_of


def late_coming(works):
    """The COMING of LATE WORKS; refused where they are none."""
    coming = one_coming(works)
    refuse_other_costs(works, "miss")
    return coming


def by_dues(works):
    """The works BY DUES."""
    return sorted(range(len(works)), key=lambda j: (works[j][2][1], j))


def full_weight(works):
    """The FULL WEIGHT of LATE WORKS."""
    return sum([weight_of(work) for work in works])


def no_more(one, other):
    """Whether the one entry is NO MORE than the other one."""
    return other is None or (one is not None and one <= other)


def put_behind(row, work, w):
    """What the work makes of the row's entry that lacks its weight to w; None where it can't be in time so."""
    length, coming, (word, due, weight) = work
    if w < weight or row[w - weight] is None:
        return None
    end = row[w - weight] + length
    return end if end <= due else None


def greatest_weight(table):
    """The greatest w at which the last row of a TABLE has a NUMBER."""
    return max([w for w, entry in enumerate(table[-1]) if entry is not None])


def look_at_shape(works, thing, path):
    """Refuses any thing that isn't in the shape of a TABLE; path is its place in the whole paper."""
    if not is_tuple_of(len(works) + 1, thing):
        raise NoPaper(path, "shape")
    many = full_weight(works) + 1
    for k, row in enumerate(thing):
        if not is_tuple_of(many, row):
            raise NoPaper(path + (k,), "shape")
        for w, entry in enumerate(row):
            if entry is not None and not is_number(entry):
                raise NoPaper(path + (k, w), "shape")


def look_at_row(work, above, row, path):
    """Refuses a row, one for the work below another one, of which some entry isn't in its place."""
    for w, entry in enumerate(row):
        if not no_more(entry, above[w]):
            raise NoPaper(path + (w,), "kept")
        if not no_more(entry, put_behind(above, work, w)):
            raise NoPaper(path + (w,), "more")


def look_at_places(works, table, path):
    """Refuses a TABLE that isn't LET BY; path is its place in the whole paper."""
    if not no_more(table[0][0], late_coming(works)):
        raise NoPaper(path + (0, 0), "begin")
    for k, j in enumerate(by_dues(works), start=1):
        look_at_row(works[j], table[k - 1], table[k], path + (k,))


def lets_table(works, thing):
    """The late weight that any thing shows as a TABLE of LATE WORKS."""
    late_coming(works)
    look_at_shape(works, thing, ())
    look_at_places(works, thing, ())
    return full_weight(works) - greatest_weight(thing)
