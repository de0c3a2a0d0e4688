"""WISHES: tuples of pairs (a, b), a to be done ahead of b."""

from benchdays.plain import is_number_of_work, is_tuple_of, rises


def is_pair(many, thing):
    """Whether it is a pair of the numbers of two unlike works."""
    if not is_tuple_of(2, thing):
        return False
    a, b = thing
    return is_number_of_work(many, a) and is_number_of_work(many, b) and a != b


def is_wishes(many, thing):
    """Whether any thing is WISHES of so many works."""
    if not isinstance(thing, tuple):
        return False
    if not all([is_pair(many, pair) for pair in thing]):
        return False
    return rises(thing) and ring(many, thing) is None


def leading_on(pairs):
    """The pairs that are left where those that lead to a dead end are taken out, again and again."""
    left = list(pairs)
    while True:
        firsts = [a for a, b in left]
        kept = [(a, b) for a, b in left if b in firsts]
        if len(kept) == len(left):
            return left
        left = kept


def ring(many, pairs):
    """A RING of the pairs, None where they don't go round."""
    left = leading_on(pairs)
    if not left:
        return None
    # From each work here a pair leads to another one here, so the walk comes back to itself.
    step = dict(left)
    walk = []
    at = left[0][0]
    while at not in walk:
        walk.append(at)
        at = step[at]
    return tuple(walk[walk.index(at):])


def reached(pairs, a):
    """The SET of all that a row of one or more pairs leads to from a."""
    found = []
    fresh = [a]
    while fresh:
        at = fresh.pop()
        for one, other in pairs:
            if one == at and other not in found:
                found.append(other)
                fresh.append(other)
    return tuple(sorted(found))


def behind(many, wishes, a):
    """The SET of all that are BEHIND a."""
    return reached(wishes, a)


def ahead(many, wishes, a):
    """The SET of all that are AHEAD of a."""
    return reached([(other, one) for one, other in wishes], a)


def last_ones(many, wishes, some):
    """The LAST ONES of a SET."""
    told = []
    for u in some:
        later = behind(many, wishes, u)
        if not any([other in later for other in some]):
            told.append(u)
    return tuple(told)


def is_closed(many, wishes, some):
    """Whether a SET is CLOSED."""
    return all([a in some for u in some for a in ahead(many, wishes, u)])


def is_forest(many, wishes):
    """Whether no two of the WISHES have the same second."""
    return len({b for a, b in wishes}) == len(wishes)
