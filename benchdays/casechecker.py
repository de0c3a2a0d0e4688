"""The checker of CASES: whether they show that no ORDER costs less than a number, whoever wrote them."""

from benchdays.costs import cost_at
from benchdays.errors import NoPaper, TooMany
from benchdays.heads import raised
from benchdays.orders import run
from benchdays.plain import is_set_of_works, is_tuple_of
from benchdays.wishes import last_ones
from benchdays.works import length_of

# The words of CASES without parts, by the QUESTION: that of one alone, and that of one with a SET.
ALONE = {"greatest": "done", "sum": "each"}
WITH_SET = {"greatest": "set", "sum": "last"}


def refuse_many(works):
    """Refuses more than five WORKS."""
    if len(works) > 5:
        raise TooMany("works")


def left_of(works, done):
    """The SET of the works that are LEFT behind a BEGINNING."""
    return tuple([j for j in range(len(works)) if j not in done])


def next_ones(works, wishes, done):
    """The SET of the works that are OPEN behind a BEGINNING."""
    left = left_of(works, done)
    # Where one AHEAD is LEFT, so is the one of the same row of WISHES that is straight ahead.
    held = [b for a, b in wishes if a in left]
    return tuple([j for j in left if j not in held])


def end_of_done(works, done):
    """The END of a BEGINNING."""
    ends = [end for j, begin, end in run(works, done)]
    return ends[-1] if ends else 0


def earliests(works, wishes, done):
    """The EARLIEST of each work that is LEFT."""
    left = left_of(works, done)
    return dict(zip(left, raised(works, wishes, left, end_of_done(works, done))))


def done_costs(works, done):
    """What each work of a BEGINNING costs."""
    return [cost_at(works[j][2], end) for j, begin, end in run(works, done)]


def finish_of(works, early, some):
    """The FINISH of a SET of works LEFT, by their EARLIESTS."""
    return min([early[j] for j in some]) + length_of(works, some)


def shown_by_set(works, wishes, done, some):
    """What ("set", some) shows."""
    finish = finish_of(works, earliests(works, wishes, done), some)
    return min([cost_at(works[u][2], finish) for u in last_ones(len(works), wishes, some)])


def soonest_costs(works, early):
    """What each work LEFT costs at its SOONEST, by their EARLIESTS."""
    return {j: cost_at(works[j][2], early[j] + works[j][0]) for j in early}


def shown_by_each(works, wishes, done):
    """What ("each",) shows."""
    soonest = soonest_costs(works, earliests(works, wishes, done))
    return sum(done_costs(works, done)) + sum(soonest.values())


def shown_by_last(works, wishes, done, some):
    """What ("last", some) shows."""
    early = earliests(works, wishes, done)
    soonest = soonest_costs(works, early)
    finish = finish_of(works, early, some)
    # A COST never falls, so at the later of two moments it is the greater one.
    more = [max(0, cost_at(works[u][2], finish) - soonest[u]) for u in last_ones(len(works), wishes, some)]
    return shown_by_each(works, wishes, done) + min(more)


def shows(works, wishes, number, done, case):
    """Whether CASES without parts show the number for a BEGINNING."""
    word = case[0]
    if word == "done":
        return any([cost >= number for cost in done_costs(works, done)])
    if word == "set":
        return shown_by_set(works, wishes, done, case[1]) >= number
    if word == "each":
        return shown_by_each(works, wishes, done) >= number
    return shown_by_last(works, wishes, done, case[1]) >= number


def is_set_left(works, done, thing):
    """Whether it is a SET of works LEFT, not void."""
    return is_set_of_works(len(works), thing) and thing != () and all([j not in done for j in thing])


def has_shape(works, wishes, question, done, thing):
    """Whether any thing is in the shape of CASES for a BEGINNING, its parts not looked at."""
    if is_tuple_of(1, thing):
        return thing[0] == ALONE[question]
    if not is_tuple_of(2, thing):
        return False
    word, told = thing
    if word == "next":
        many = len(next_ones(works, wishes, done))
        return many > 0 and is_tuple_of(many, told)
    return word == WITH_SET[question] and is_set_left(works, done, told)


def look_at_case(works, wishes, question, number, done, thing):
    """Refuses any thing that isn't CASES that show the number for a BEGINNING."""
    if not has_shape(works, wishes, question, done, thing):
        raise NoPaper(done, "shape")
    if thing[0] == "next":
        for u, part in zip(next_ones(works, wishes, done), thing[1]):
            look_at_case(works, wishes, question, number, done + (u,), part)
    elif not shows(works, wishes, number, done, thing):
        raise NoPaper(done, "less")


def lets_cases(works, wishes, question, number, thing):
    """True where any thing is CASES that show that no ORDER costs less than the number."""
    refuse_many(works)
    look_at_case(works, wishes, question, number, (), thing)
    return True
