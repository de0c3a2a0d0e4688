"""A best ORDER of at most five whole works, however they come, and CASES that show it."""

from benchdays.asking import cost_of_order
from benchdays.casechecker import ALONE, WITH_SET, left_of, next_ones, refuse_many, shows


def orders_behind(works, wishes, done):
    """All ORDERS that begin with a BEGINNING."""
    if len(done) == len(works):
        return [done]
    return [order for u in next_ones(works, wishes, done) for order in orders_behind(works, wishes, done + (u,))]


def least_order(works, wishes, question):
    """An ORDER that costs the least of all."""
    refuse_many(works)
    return min(orders_behind(works, wishes, ()), key=lambda order: cost_of_order(works, order, question))


def sets_within(some):
    """All SETS of works of a SET, the void one first."""
    told = [()]
    for u in some:
        told = told + [one + (u,) for one in told]
    return told


def cases_alone(works, question, done):
    """All CASES without parts for a BEGINNING."""
    return [(ALONE[question],)] + [(WITH_SET[question], some) for some in sets_within(left_of(works, done))[1:]]


def cases_for(works, wishes, question, number, done):
    """CASES for a BEGINNING that show a number which no ORDER costs less than."""
    for case in cases_alone(works, question, done):
        if shows(works, wishes, number, done, case):
            return case
    # Where none is LEFT, what is done costs the number or more, so here some are.
    parts = [cases_for(works, wishes, question, number, done + (u,)) for u in next_ones(works, wishes, done)]
    return ("next", tuple(parts))


def whole_best(works, wishes, question):
    """An ORDER that costs the least of all, and CASES that show what it costs."""
    order = least_order(works, wishes, question)
    number = cost_of_order(works, order, question)
    return (order, cases_for(works, wishes, question, number, ()))
