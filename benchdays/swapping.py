"""Exchanges of neighbours in an order of works that come alike."""

from benchdays.costs import cost_at
from benchdays.errors import NoRule
from benchdays.works import length_of, one_coming


def two_cost(works, begin, one, other):
    """What two works cost together, by "sum", that are done from the moment begin on, the one first."""
    middle = begin + works[one][0]
    return cost_at(works[one][2], middle) + cost_at(works[other][2], middle + works[other][0])


def swap_gain(works, order, k):
    """By how much what an order costs, by "sum", falls as the works at places k and k + 1 are exchanged."""
    coming = one_coming(works)
    if k < 0 or k + 1 >= len(order):
        raise NoRule("k")
    begin = coming + length_of(works, order[:k])
    one, other = order[k], order[k + 1]
    # Whoever stands ahead of these two or behind them ends when it did.
    return two_cost(works, begin, one, other) - two_cost(works, begin, other, one)


def settled(works, wishes, order):
    """Whether no exchange of two neighbours that the WISHES let makes the sum less."""
    one_coming(works)
    free = [k for k, pair in enumerate(zip(order, order[1:])) if pair not in wishes]
    return all([swap_gain(works, order, k) <= 0 for k in free])
