"""STRETCHES: the works that keep the bench busy from one moment to another."""

from benchdays.heads import heads


def stretches_of(works, wishes, some):
    """The STRETCHES of a SET, by the HEADS of all WORKS."""
    begins = heads(works, wishes)
    told = []
    for work in sorted(some, key=lambda j: (begins[j], j)):
        if told == [] or begins[work] >= told[-1][1]:
            told.append((begins[work], begins[work] + works[work][0], (work,)))
        else:
            begin, end, members = told[-1]
            told[-1] = (begin, end + works[work][0], tuple(sorted(members + (work,))))
    return told


def stretches(works, wishes):
    """The STRETCHES of all WORKS."""
    return stretches_of(works, wishes, tuple(range(len(works))))
