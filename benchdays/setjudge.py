"""The checker of SET TABLES: the BOUND that one shows, whoever wrote it.

SETS are told by their NUMBERS IN TWOS here.
"""

from benchdays.costs import cost_at
from benchdays.errors import NoPaper, TooMany
from benchdays.plain import is_number, is_tuple_of
from benchdays.works import length_of, one_coming


def refuse_no_few(works):
    """Refuses WORKS that are more than seven, or come UNLIKE."""
    if len(works) > 7:
        raise TooMany("works")
    one_coming(works)


def closed_sets(works, wishes):
    """Of each SET, by its number, whether it is CLOSED."""
    # A SET that has the first of each WISH whose second it has, has all that are AHEAD, too.
    return [all([m >> a & 1 for a, b in wishes if m >> b & 1]) for m in range(1 << len(works))]


def end_of_set(works, m):
    """The END of a SET."""
    # All come alike here, so the coming of one of them is that of all.
    return works[0][1] + length_of(works, [u for u in range(len(works)) if m >> u & 1])


def void_entry(question):
    """The entry of the void SET."""
    return 0 if question == "sum" else None


def limit(question, before, cost):
    """What an entry is no more than, by the entry of its SET without a LAST ONE and what that one costs."""
    if question == "sum":
        return before + cost
    return cost if before is None else max(before, cost)


def limits(works, question, closed, table, m):
    """What the entry of a CLOSED SET, not void, is no more than, for each of its LAST ONES."""
    end = end_of_set(works, m)
    # A CLOSED SET is CLOSED without u just where u is one of its LAST ONES.
    last = [u for u in range(len(works)) if m >> u & 1 and closed[m - (1 << u)]]
    return [limit(question, table[m - (1 << u)], cost_at(works[u][2], end)) for u in last]


def is_entry(question, closed, m, entry):
    """Whether an entry is None, 0 or a NUMBER where this is told."""
    wants_number = closed[m] and (m > 0 or question == "sum")
    if not wants_number:
        return entry is None
    return is_number(entry) and (m > 0 or entry == 0)


def lets_settable(works, wishes, question, thing):
    """The BOUND that any thing shows as a SET TABLE."""
    refuse_no_few(works)
    closed = closed_sets(works, wishes)
    if not is_tuple_of(len(closed), thing):
        raise NoPaper((), "shape")
    for m, entry in enumerate(thing):
        if not is_entry(question, closed, m, entry):
            raise NoPaper((m,), "entry")
        if m > 0 and closed[m] and entry > min(limits(works, question, closed, thing, m)):
            raise NoPaper((m,), "more")
    return thing[-1]
