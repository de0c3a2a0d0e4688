"""COSTS: what a work costs by the moment at which it ends."""

from benchdays.errors import NoRule
from benchdays.plain import is_number, is_number_from, is_tuple_of, rises


def is_row(thing):
    """Whether it is a row (from, cost) of steps, by itself."""
    return is_tuple_of(2, thing) and is_number(thing[0]) and is_number_from(0, thing[1])


def is_rows(thing):
    """Whether they are the rows of steps."""
    if not isinstance(thing, tuple) or thing == ():
        return False
    if not all([is_row(row) for row in thing]):
        return False
    if not rises([row[0] for row in thing]):
        return False
    amounts = [row[1] for row in thing]
    return amounts == sorted(amounts)


def is_cost(thing):
    """Whether any thing is a COST."""
    if not isinstance(thing, tuple) or thing == ():
        return False
    word = thing[0]
    if word == "late":
        return len(thing) == 2 and is_number(thing[1])
    if word == "tardy" or word == "miss":
        return len(thing) == 3 and is_number(thing[1]) and is_number_from(0, thing[2])
    if word == "ends":
        return len(thing) == 2 and is_number_from(0, thing[1])
    return word == "steps" and len(thing) == 2 and is_rows(thing[1])


def steps_at(rows, t):
    """What the rows of steps tell at the moment t."""
    told = 0
    for begin, amount in rows:
        if begin > t:
            return told
        told = amount
    return told


def cost_at(cost, t):
    """What the COST tells at the moment t."""
    word = cost[0]
    if word == "steps":
        return steps_at(cost[1], t)
    if word == "ends":
        return cost[1] * t
    above = t - cost[1]
    if word == "late":
        return above
    if above <= 0:
        return 0
    if word == "tardy":
        return cost[2] * above
    return cost[2]


def later_due(cost, days):
    """The COST with its due so many days greater."""
    if cost[0] == "ends" or cost[0] == "steps":
        raise NoRule("due")
    return (cost[0], cost[1] + days) + cost[2:]


def moved_cost(cost, days):
    """The COST that tells so many days later what this one told."""
    if cost[0] == "ends":
        raise NoRule("ends")
    if cost[0] == "steps":
        return ("steps", tuple([(begin + days, amount) for begin, amount in cost[1]]))
    return later_due(cost, days)
