"""The SET TABLE whose NUMBERS are not less than they have to be."""

from benchdays.setjudge import closed_sets, limits, refuse_no_few, void_entry


def set_table(works, wishes, question):
    """The SET TABLE in which each NUMBER is the least that an order of its SET's works alone costs."""
    refuse_no_few(works)
    closed = closed_sets(works, wishes)
    table = [void_entry(question)]
    for m in range(1, len(closed)):
        table.append(min(limits(works, question, closed, table, m)) if closed[m] else None)
    return tuple(table)
