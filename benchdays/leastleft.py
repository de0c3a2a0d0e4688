"""How many works are done by a moment, and the PLAN that does the one with the least left."""

from benchdays.breaking import ranked_plan
from benchdays.lateorder import put_out
from benchdays.latetable import table_of
from benchdays.plans import ends_of
from benchdays.works import one_weight, refuse_other_costs


def turned(works, t):
    """The WORKS, TURNED: seen from the moment t backwards."""
    return tuple([(length, 0, ("miss", t - coming, 1)) for length, coming, cost in works])


def done_by(works, t):
    """How many works are DONE BY t at most."""
    return len(put_out(turned(works, t))[0])


def end_weight(works):
    """The weight of END WORKS; refused where they are none."""
    refuse_other_costs(works, "ends")
    return one_weight(works)


def left_plan(works):
    """A PLAN of END WORKS in which at each moment as many are done as can be."""
    end_weight(works)
    return ranked_plan(works, [work[1] for work in works], lambda work, left: left)


def ends_paper(works):
    """An ENDS PAPER that shows what the PLAN with the least left costs."""
    ends = sorted(ends_of(works, left_plan(works)))
    # Just ahead of its k-th END no more than k works are done, in any PLAN.
    return tuple([(end, table_of(turned(works, end - 1))) for end in ends])
