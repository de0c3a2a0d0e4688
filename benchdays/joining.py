"""JOINED BLOCKS: a best ORDER of weighted ends where the wishes are a FOREST, and its PRICES."""

from benchdays.errors import NoRule
from benchdays.fractions import falling, less, minus
from benchdays.ratios import ratio_of, weighted_coming
from benchdays.wishes import is_forest


def refuse_no_forest(works, wishes):
    """Refuses WORKS that have no JOINED BLOCKS."""
    weighted_coming(works)
    if not is_forest(len(works), wishes):
        raise NoRule("forest")


def row_of(works, wishes, a):
    """The BLOCK ROW of a, with what its BLOCK has taken: (BLOCK of a, BLOCKS taken, BLOCKS left)."""
    line = line_of(works, wishes, [b for one, b in wishes if one == a])
    block = (a,)
    many = 0
    while many < len(line) and less(ratio_of(works, block), ratio_of(works, line[many])):
        block = block + line[many]
        many += 1
    return (block, line[:many], line[many:])


def line_of(works, wishes, some):
    """The LINE of some works, their numbers rising."""
    blocks = []
    for a in some:
        block, taken, left = row_of(works, wishes, a)
        blocks += [block] + left
    return [blocks[k] for k in falling([ratio_of(works, block) for block in blocks])]


def joined(works, wishes):
    """The JOINED BLOCKS."""
    refuse_no_forest(works, wishes)
    seconds = [b for a, b in wishes]
    return line_of(works, wishes, [a for a in range(len(works)) if a not in seconds])


def prices_of(works, wishes, a):
    """The entries of a among the PRICES: what its BLOCK has taken, each with all taken ahead of it."""
    block, taken, left = row_of(works, wishes, a)
    ratios = [ratio_of(works, one) for one in taken] + [ratio_of(works, block)]
    entries = []
    some = ()
    for k, one in enumerate(taken):
        some = tuple(sorted(some + one))
        entries.append((a, some, minus(ratios[k], ratios[k + 1])))
    return entries


def forest_order(works, wishes):
    """The ORDER of the JOINED BLOCKS, and PRICES that SHOW what it costs."""
    order = [j for block in joined(works, wishes) for j in block]
    prices = [entry for a in range(len(works)) for entry in prices_of(works, wishes, a)]
    return (tuple(order), tuple(prices))
