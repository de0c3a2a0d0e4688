"""ORDERS of WORKS, and the PLAN that does the works in an ORDER."""

from benchdays.plain import is_number


def is_order(works, wishes, thing):
    """Whether any thing is an ORDER of the WORKS with the WISHES."""
    if not isinstance(thing, tuple) or not all([is_number(entry) for entry in thing]):
        return False
    if sorted(thing) != list(range(len(works))):
        return False
    return all([thing.index(a) < thing.index(b) for a, b in wishes])


def run(works, order):
    """The RUN of an ORDER: each work whole, as early as its coming and the one ahead let it."""
    pieces = []
    end = 0
    for work in order:
        length, coming, cost = works[work]
        begin = max(coming, end)
        end = begin + length
        pieces.append((work, begin, end))
    return tuple(pieces)
