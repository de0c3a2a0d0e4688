"""HEADS: below these moments no PLAN has a PIECE of a work."""


def raised(works, wishes, some, t):
    """The HEADS of a SET of works alone, RAISED to the moment t."""
    told = {work: max(works[work][1], t) for work in some}
    within = [(a, b) for a, b in wishes if a in told and b in told]
    # No row of wishes is longer than there are works, so as many turns carry each HEAD to its end.
    for turn in some:
        for a, b in within:
            told[b] = max(told[b], told[a] + works[a][0])
    return tuple([told[work] for work in some])


def heads(works, wishes):
    """The HEADS of WORKS with WISHES."""
    # No coming is below 0, so raising to 0 raises none.
    return raised(works, wishes, tuple(range(len(works))), 0)
