"""A best ORDER by "greatest" of works that come alike: the last place is given first."""

from benchdays.breaking import cheapest_last, greatest_bound, without
from benchdays.works import length_of, one_coming


def greatest_order(works, wishes):
    """A best ORDER by "greatest", and a SET whose BOUND is what it costs."""
    coming = one_coming(works)
    order = []
    sets = []
    left = tuple(range(len(works)))
    while left:
        u = cheapest_last(works, wishes, left, coming + length_of(works, left))
        order.insert(0, u)
        sets.append(left)
        left = without(left, u)
    return (tuple(order), greatest_bound(works, wishes, sets))
