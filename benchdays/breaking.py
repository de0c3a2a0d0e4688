"""Best PLANS by "greatest", where works may be broken off."""

from benchdays.blocks import stretches_of
from benchdays.costs import cost_at
from benchdays.heads import heads
from benchdays.setchecker import bound_of
from benchdays.wishes import last_ones
from benchdays.works import refuse_other_costs


def cheapest_last(works, wishes, some, end):
    """Of the LAST ONES of a SET, not void, one that costs least at the end."""
    return min(last_ones(len(works), wishes, some), key=lambda u: cost_at(works[u][2], end))


def without(some, u):
    """The SET without u."""
    return tuple([work for work in some if work != u])


def gaps_filled(u, begin, end, pieces):
    """The PIECES of a STRETCH from begin to end without u, with u done wherever none of them is."""
    told = []
    at = begin
    for piece in pieces:
        if at < piece[1]:
            told.append((u, at, piece[1]))
        told.append(piece)
        at = piece[2]
    # Were u done ahead of the last others, the STRETCH would have ended where these begin.
    told.append((u, at, end))
    return told


def broken_off(works, wishes, some):
    """The PIECES of a SET, and the SETS of all STRETCHES that it falls into, one within another."""
    pieces = []
    sets = []
    for begin, end, members in stretches_of(works, wishes, some):
        u = cheapest_last(works, wishes, members, end)
        inner_pieces, inner_sets = broken_off(works, wishes, without(members, u))
        pieces += gaps_filled(u, begin, end, inner_pieces)
        sets += [members] + inner_sets
    return (pieces, sets)


def greatest_bound(works, wishes, sets):
    """Of some SETS, none void, one with the greatest BOUND."""
    return max(sets, key=lambda some: bound_of(works, wishes, some))


def greatest_plan(works, wishes):
    """A best PLAN by "greatest", and a SET whose BOUND is what it costs."""
    pieces, sets = broken_off(works, wishes, tuple(range(len(works))))
    return (tuple(pieces), greatest_bound(works, wishes, sets))


def turned_dues(works, wishes):
    """The TURNED DUES of WORKS whose costs are all "late"."""
    dues = [work[2][1] for work in works]
    # No row of wishes is longer than there are works, so as many turns carry each due to its end.
    for turn in works:
        for a, b in wishes:
            dues[a] = min(dues[a], dues[b] - works[b][0])
    return dues


def add_piece(pieces, work, begin, end):
    """Puts a PIECE behind the others, as one with the last where that is of the same work and ends there."""
    if pieces and pieces[-1][0] == work and pieces[-1][2] == begin:
        pieces[-1] = (work, pieces[-1][1], end)
    else:
        pieces.append((work, begin, end))


def ranked_plan(works, begins, rank):
    """The PLAN that does at each moment, of the works begun by then and not done, the least by rank.

    A rank is told of a work and what is left of it; as that gets less, the rank of a work never grows.
    """
    left = [work[0] for work in works]
    pieces = []
    t = 0
    while any(left):
        undone = [j for j in range(len(works)) if left[j] > 0]
        t = max(t, min([begins[j] for j in undone]))
        work = min([j for j in undone if begins[j] <= t], key=lambda j: (rank(j, left[j]), j))
        # Only a work that begins can have a lesser rank than the one that is done.
        stop = min([t + left[work]] + [begins[j] for j in undone if begins[j] > t])
        add_piece(pieces, work, t, stop)
        left[work] -= stop - t
        t = stop
    return tuple(pieces)


def due_plan(works, wishes):
    """The PLAN by dues, where all costs are "late"."""
    refuse_other_costs(works, "late")
    dues = turned_dues(works, wishes)
    return ranked_plan(works, heads(works, wishes), lambda work, left: dues[work])
