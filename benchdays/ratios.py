"""RATIOS of weighted ends: a best ORDER without wishes, and what it costs."""

from benchdays.fractions import falling, fraction
from benchdays.works import length_of, one_coming, refuse_other_costs, weight_of


def weighted_coming(works):
    """The COMING of WORKS whose costs are all "ends"; refused where they aren't such."""
    coming = one_coming(works)
    refuse_other_costs(works, "ends")
    return coming


def ratio_of(works, some):
    """The RATIO of some works: their weights over their lengths."""
    return fraction(sum([weight_of(works[j]) for j in some]), length_of(works, some))


def ratio_order(works):
    """The RATIO ORDER."""
    weighted_coming(works)
    return tuple(falling([ratio_of(works, (j,)) for j in range(len(works))]))


def pair_sum_of(coming, lengths, weights):
    """The PAIR SUM of such lengths and weights; weights may be below 0."""
    alone = sum([weight * (coming + length) for length, weight in zip(lengths, weights)])
    pairs = [(i, j) for j in range(len(lengths)) for i in range(j)]
    return alone + sum([min(lengths[i] * weights[j], lengths[j] * weights[i]) for i, j in pairs])


def pair_sum(works):
    """The PAIR SUM."""
    coming = weighted_coming(works)
    return pair_sum_of(coming, [work[0] for work in works], [weight_of(work) for work in works])
