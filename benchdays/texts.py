"""WORKS, WISHES and PLANS written as texts."""


def shown_cost(cost):
    """A COST, written."""
    if cost[0] == "steps":
        rows = ",".join([f"{begin}={amount}" for begin, amount in cost[1]])
        return f"steps:{rows}"
    return ":".join([str(part) for part in cost])


def shown_work(work):
    """A WORK, written."""
    length, coming, cost = work
    return f"{length} {coming} {shown_cost(cost)}"


def shown_wish(one, other):
    """A WISH, written by the numbers or the names of its works."""
    return f"{one}<{other}"


def shown_works(works, wishes):
    """WORKS and WISHES of them, written: a row for each work, and one for the WISHES."""
    pairs = [shown_wish(a, b) for a, b in wishes]
    return [shown_work(work) for work in works] + [" ".join(["wishes"] + pairs)]


def shown_plan(plan):
    """A PLAN, written; its works told by numbers or by names."""
    return " ".join([f"{work}:{begin}:{end}" for work, begin, end in plan])
