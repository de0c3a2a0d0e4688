"""What a SET shows: a BOUND below which no PLAN costs by "greatest"."""

from benchdays.costs import cost_at
from benchdays.errors import NoPaper
from benchdays.heads import heads
from benchdays.plain import is_number_of_work
from benchdays.wishes import last_ones
from benchdays.works import length_of


def bound_of(works, wishes, some):
    """The BOUND of a SET that isn't void."""
    begins = heads(works, wishes)
    end = min([begins[work] for work in some]) + length_of(works, some)
    return min([cost_at(works[u][2], end) for u in last_ones(len(works), wishes, some)])


def lets_set(works, wishes, number, thing):
    """True where any thing is a SET, not void, whose BOUND is no less than the number."""
    if not isinstance(thing, tuple) or thing == ():
        raise NoPaper((), "shape")
    for k, entry in enumerate(thing):
        if not is_number_of_work(len(works), entry):
            raise NoPaper((k,), "entry")
        if k > 0 and entry <= thing[k - 1]:
            raise NoPaper((k,), "entry")
    if bound_of(works, wishes, thing) < number:
        raise NoPaper((), "less")
    return True
