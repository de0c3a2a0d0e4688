"""The BEST of works, and what a day more to a due, a day less of length or coming makes of it."""

from benchdays.asking import cost_of_order, cost_of_plan
from benchdays.bests import best
from benchdays.breaking import greatest_plan
from benchdays.casing import least_order
from benchdays.costs import later_due
from benchdays.errors import NoRule
from benchdays.works import same_coming, with_coming, with_length, with_work


def best_order(works, wishes, question):
    """An ORDER that costs the least of all; refused where the WORKS are too many for how they come."""
    if same_coming(works) is None:
        return least_order(works, wishes, question)
    order, table = best(works, wishes, question)
    return order


def best_worth(works, wishes, question, way):
    """The BEST of WORKS, done whole or broken off."""
    if way == "whole":
        return cost_of_order(works, best_order(works, wishes, question), question)
    if question == "sum":
        raise NoRule("sum")
    plan, some = greatest_plan(works, wishes)
    return cost_of_plan(works, plan, question)


def worths(rows, wishes, question, way):
    """The BEST of each of some WORKS."""
    return tuple([best_worth(works, wishes, question, way) for works in rows])


def due_worth(works, wishes, question, way, j, k):
    """The BEST with the due of work j from 0 to k days later."""
    # What refuses the BEST goes ahead of a due that lacks.
    best_worth(works, wishes, question, way)
    length, coming, cost = works[j]
    rows = [with_work(works, j, (length, coming, later_due(cost, d))) for d in range(k + 1)]
    return worths(rows, wishes, question, way)


def length_worth(works, wishes, question, way, j, k):
    """The BEST with the length of work j from 0 to k days less, but 1 at least."""
    rows = [with_length(works, j, max(1, works[j][0] - d)) for d in range(k + 1)]
    return worths(rows, wishes, question, way)


def coming_worth(works, wishes, question, way, j, k):
    """The BEST with the coming of work j from 0 to k days less, but 0 at least."""
    rows = [with_coming(works, j, max(0, works[j][1] - d)) for d in range(k + 1)]
    return worths(rows, wishes, question, way)
