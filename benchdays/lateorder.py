"""ORDERS of LATE WORKS that are late by the least weight."""

from benchdays.latechecker import by_dues, greatest_weight, late_coming
from benchdays.latetable import in_time, table_of
from benchdays.works import length_of, one_weight


def late_order(works):
    """An ORDER that costs the least by the sum, and a TABLE that shows it."""
    table = table_of(works)
    some = in_time(works, greatest_weight(table))
    first = [j for j in by_dues(works) if j in some]
    return (tuple(first + [j for j in range(len(works)) if j not in some]), table)


def put_out(works):
    """Of LATE WORKS of one weight, the most that CAN BE IN TIME, as short as can be, and the others."""
    coming = late_coming(works)
    one_weight(works)
    kept = []
    for j in by_dues(works):
        kept.append(j)
        if coming + length_of(works, kept) > works[j][2][1]:
            kept.remove(max(kept, key=lambda one: works[one][0]))
    return (tuple(sorted(kept)), tuple([j for j in range(len(works)) if j not in kept]))
