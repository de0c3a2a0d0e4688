"""What ENDS cost, by a QUESTION; so what PLANS and ORDERS do."""

from benchdays.costs import cost_at
from benchdays.orders import run
from benchdays.plans import ends_of


def costs_of(works, ends):
    """What each work's COST tells at its END."""
    return tuple([cost_at(work[2], end) for work, end in zip(works, ends)])


def worth(works, ends, question):
    """What the ENDS cost: the greatest of the costs of all, or their sum."""
    costs = costs_of(works, ends)
    if question == "greatest":
        return max(costs)
    return sum(costs)


def cost_of_plan(works, plan, question):
    """What a PLAN costs."""
    return worth(works, ends_of(works, plan), question)


def cost_of_order(works, order, question):
    """What an ORDER costs: what its RUN does."""
    return cost_of_plan(works, run(works, order), question)
