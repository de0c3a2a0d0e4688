"""What ENDS cost, by a QUESTION."""

from benchdays.costs import cost_at


def costs_of(works, ends):
    """What each work's COST tells at its END."""
    return tuple([cost_at(work[2], end) for work, end in zip(works, ends)])


def worth(works, ends, question):
    """What the ENDS cost: the greatest of the costs of all, or their sum."""
    costs = costs_of(works, ends)
    if question == "greatest":
        return max(costs)
    return sum(costs)
