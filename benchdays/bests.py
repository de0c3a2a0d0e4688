"""BEST ORDERS of works that come alike: one of them, how many there are, all of them, each by its place."""

from benchdays.asking import cost_of_order
from benchdays.costs import cost_at
from benchdays.errors import NoRule, TooMany
from benchdays.orders import is_order
from benchdays.setjudge import end_of_set
from benchdays.settable import set_table


def can_go_on(works, question, table, m, u):
    """Whether a beginning of a BEST ORDER that has done the SET m, by its number, may go on with u."""
    done = m | (1 << u)
    if done == m or table[done] is None:
        return False
    cost = cost_at(works[u][2], end_of_set(works, done))
    if question == "sum":
        return table[m] + cost == table[done]
    return cost <= table[-1]


def roads(works, question, table):
    """For each CLOSED SET, by its number, the works that may be next, each as (work, how many ways it leads on)."""
    full = len(table) - 1
    ways = {full: 1}
    told = {full: []}
    for m in reversed(range(full)):
        if m == 0 or table[m] is not None:
            free = [u for u in range(len(works)) if can_go_on(works, question, table, m, u)]
            told[m] = [(u, ways[m | (1 << u)]) for u in free]
            ways[m] = count_of(told[m])
    return told


def count_of(steps):
    """How many ways lead on by some steps."""
    return sum([many for u, many in steps])


def order_at(told, k):
    """The BEST ORDER that has k of them ahead of it, by the roads told."""
    order = ()
    m = 0
    while told[m]:
        # The ways of all works below the one that is next stand ahead.
        step = 0
        while k >= told[m][step][1]:
            k -= told[m][step][1]
            step += 1
        u = told[m][step][0]
        order += (u,)
        m = m | (1 << u)
    return order


def best_roads(works, wishes, question):
    """The roads of all BEST ORDERS."""
    return roads(works, question, set_table(works, wishes, question))


def best(works, wishes, question):
    """A BEST ORDER, and the SET TABLE that shows that none costs less."""
    table = set_table(works, wishes, question)
    return (order_at(roads(works, question, table), 0), table)


def how_many(works, wishes, question):
    """How many BEST ORDERS there are."""
    return count_of(best_roads(works, wishes, question)[0])


def bests_told(works, wishes, question):
    """All BEST ORDERS, rising."""
    told = best_roads(works, wishes, question)
    many = count_of(told[0])
    if many > 200:
        raise TooMany("orders")
    return [order_at(told, k) for k in range(many)]


def kth(works, wishes, question, k):
    """The BEST ORDER that has k of them ahead of it."""
    told = best_roads(works, wishes, question)
    if k < 0 or k >= count_of(told[0]):
        raise NoRule("k")
    return order_at(told, k)


def is_best(works, wishes, question, thing):
    """Whether any thing is a BEST ORDER."""
    least = set_table(works, wishes, question)[-1]
    return is_order(works, wishes, thing) and cost_of_order(works, thing, question) == least
