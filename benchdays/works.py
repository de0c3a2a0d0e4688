"""WORKS: tuples of (length, coming, cost)."""

from benchdays.costs import is_cost
from benchdays.errors import NoRule
from benchdays.plain import is_number_from, is_tuple_of


def is_work(thing):
    """Whether any thing is a WORK."""
    if not is_tuple_of(3, thing):
        return False
    length, coming, cost = thing
    return is_number_from(1, length) and is_number_from(0, coming) and is_cost(cost)


def is_works(thing):
    """Whether any thing is WORKS."""
    if not isinstance(thing, tuple) or thing == ():
        return False
    return all([is_work(work) for work in thing])


def all_length(works):
    """The sum of all lengths."""
    return sum([work[0] for work in works])


def length_of(works, some):
    """The lengths of some of the works, added."""
    return sum([works[j][0] for j in some])


def same_coming(works):
    """The coming of all, where all have the same one; else None."""
    coming = works[0][1]
    if all([work[1] == coming for work in works]):
        return coming
    return None


def one_coming(works):
    """The COMING of WORKS; refused where they come UNLIKE."""
    coming = same_coming(works)
    if coming is None:
        raise NoRule("coming")
    return coming


def refuse_other_costs(works, word):
    """Refuses WORKS of which some cost is none of the word."""
    if any([work[2][0] != word for work in works]):
        raise NoRule(word)


def weight_of(work):
    """The weight of a WORK whose cost is "tardy", "miss" or "ends"."""
    return work[2][-1]


def one_weight(works):
    """The weight of all such WORKS; refused where two weights are unlike."""
    weight = weight_of(works[0])
    if any([weight_of(work) != weight for work in works]):
        raise NoRule("weights")
    return weight


def with_work(works, j, work):
    """The WORKS with another one in the place of work j."""
    return works[:j] + (work,) + works[j + 1:]


def with_length(works, j, number):
    """The WORKS in which work j has another length."""
    return with_work(works, j, (number, works[j][1], works[j][2]))


def with_coming(works, j, number):
    """The WORKS in which work j has another coming."""
    return with_work(works, j, (works[j][0], number, works[j][2]))
