"""The price checker: what PRICES SHOW of weighted ends, whoever wrote them."""

from benchdays.errors import NoPaper
from benchdays.fractions import fraction, is_fraction
from benchdays.plain import is_number_of_work, is_set_of_works, is_tuple_of
from benchdays.ratios import pair_sum_of, weighted_coming
from benchdays.wishes import behind
from benchdays.works import length_of, weight_of


def gain(works, some):
    """The GAIN of a SET: the squares of its lengths, and the products of each two of them."""
    lengths = [works[j][0] for j in some]
    return sum([lengths[i] * lengths[j] for j in range(len(lengths)) for i in range(j + 1)])


def fault_of(works, wishes, entry):
    """The word for what is amiss with an entry, a tuple of three; None where it is one of PRICES."""
    a, some, price = entry
    if not is_number_of_work(len(works), a):
        return "work"
    if not is_set_of_works(len(works), some):
        return "set"
    later = behind(len(works), wishes, a)
    if not all([b in later for b in some]):
        return "behind"
    if not is_fraction(price) or price[0] < 0:
        return "price"
    return None


def look_at_prices(works, wishes, thing):
    """Refuses any thing that isn't PRICES."""
    if not isinstance(thing, tuple) or not all([is_tuple_of(3, entry) for entry in thing]):
        raise NoPaper((), "shape")
    for k, entry in enumerate(thing):
        word = fault_of(works, wishes, entry)
        if word is not None:
            raise NoPaper((k,), word)


def common_bottom(prices):
    """A bottom that all prices can be told over."""
    bottom = 1
    for a, some, price in prices:
        bottom *= price[1]
    return bottom


def priced(works, wishes, thing):
    """What any thing SHOWS as PRICES of WORKS with WISHES."""
    coming = weighted_coming(works)
    look_at_prices(works, wishes, thing)
    # All weights and prices are told over one bottom, so that only the last step needs a FRACTION.
    bottom = common_bottom(thing)
    weights = [weight_of(work) * bottom for work in works]
    gains = 0
    for a, some, price in thing:
        top = price[0] * (bottom // price[1])
        gains += top * gain(works, some)
        weights[a] += top * length_of(works, some)
        for b in some:
            weights[b] -= top * works[b][0]
    return fraction(gains + pair_sum_of(coming, [work[0] for work in works], weights), bottom)
