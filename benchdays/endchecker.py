"""The ends checker: the BOUND that an ENDS PAPER shows, whoever wrote it."""

from benchdays.errors import NoPaper
from benchdays.latechecker import greatest_weight, look_at_places, look_at_shape
from benchdays.leastleft import end_weight, turned
from benchdays.plain import is_number, is_tuple_of


def look_at_entry_shape(works, k, entry):
    """Refuses an entry that isn't in the shape of one of an ENDS PAPER."""
    if not is_tuple_of(2, entry) or not is_number(entry[0]):
        raise NoPaper((k,), "shape")
    look_at_shape(turned(works, entry[0] - 1), entry[1], (k, 1))


def look_at_entry(works, k, entry):
    """Refuses an entry that doesn't show that at most k works have an END below its moment."""
    moment, table = entry
    look_at_places(turned(works, moment - 1), table, (k, 1))
    if greatest_weight(table) > k:
        raise NoPaper((k,), "many")


def lets_ends(works, thing):
    """The BOUND that any thing shows as an ENDS PAPER of END WORKS."""
    weight = end_weight(works)
    if not is_tuple_of(len(works), thing):
        raise NoPaper((), "shape")
    for k, entry in enumerate(thing):
        look_at_entry_shape(works, k, entry)
    for k, entry in enumerate(thing):
        look_at_entry(works, k, entry)
    return weight * sum([moment for moment, table in thing])
