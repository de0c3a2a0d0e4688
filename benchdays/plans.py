"""PLANS: tuples of PIECES (work, from, to), and when they end the works."""

from benchdays.plain import is_number, is_number_of_work, is_tuple_of


def is_piece(works, thing):
    """Whether it is a PIECE of one of the WORKS, from no earlier than its coming."""
    if not is_tuple_of(3, thing):
        return False
    work, begin, end = thing
    if not is_number_of_work(len(works), work) or not is_number(begin) or not is_number(end):
        return False
    return works[work][1] <= begin and begin < end


def one_at_a_time(pieces):
    """Whether each PIECE is from no less than the to of the one ahead of it."""
    return all([one[2] <= other[1] for one, other in zip(pieces, pieces[1:])])


def lengths_done(works, pieces):
    """How long the PIECES of each work are together."""
    done = [0 for work in works]
    for work, begin, end in pieces:
        done[work] += end - begin
    return done


def keeps_wishes(wishes, pieces, ends):
    """Whether for each WISH (a, b) no PIECE of b is from below the END of a."""
    return all([ends[a] <= begin for a, b in wishes for work, begin, end in pieces if work == b])


def is_plan(works, wishes, thing):
    """Whether any thing is a PLAN of the WORKS with the WISHES."""
    if not isinstance(thing, tuple) or not all([is_piece(works, piece) for piece in thing]):
        return False
    if not one_at_a_time(thing):
        return False
    if lengths_done(works, thing) != [work[0] for work in works]:
        return False
    return keeps_wishes(wishes, thing, ends_of(works, thing))


def ends_of(works, plan):
    """The ENDS of a PLAN."""
    ends = [0 for work in works]
    for work, begin, end in plan:
        ends[work] = end
    return tuple(ends)


def by_ends(works, plan):
    """The ORDER of a PLAN's ENDS, rising."""
    ends = ends_of(works, plan)
    return tuple(sorted(range(len(works)), key=lambda work: ends[work]))
