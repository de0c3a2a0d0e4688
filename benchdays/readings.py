"""WORKS, WISHES and PLANS read from texts."""

from benchdays.costs import is_cost
from benchdays.errors import NoText
from benchdays.plain import is_number_from
from benchdays.plans import one_at_a_time
from benchdays.wishes import is_wishes

FIGURES = "0123456789"


def number_read(word):
    """The NUMBER that a word writes; None where it writes none."""
    figures = word[1:] if word.startswith("-") else word
    if len(figures) not in range(1, 13) or not all([sign in FIGURES for sign in figures]):
        return None
    number = int(word)
    # A 0 ahead, or - ahead of 0, is lost by reading, so the word isn't what is written.
    return number if str(number) == word else None


def numbers_read(words):
    """What each word writes as a NUMBER."""
    return tuple([number_read(word) for word in words])


def cost_read(word):
    """The COST that a word writes; None where it writes none."""
    kind, *parts = word.split(":")
    if kind == "steps" and len(parts) == 1:
        thing = (kind, tuple([numbers_read(row.split("=")) for row in parts[0].split(",")]))
    else:
        thing = (kind,) + numbers_read(parts)
    return thing if is_cost(thing) else None


def part_read(k, word):
    """Part k of a WORK that a word writes; None where it can't stand there."""
    if k == 2:
        return cost_read(word)
    number = number_read(word)
    if k < 2 and is_number_from(1 - k, number):
        return number
    return None


def work_read(row, words):
    """The WORK that the words of a row write."""
    parts = []
    for k, word in enumerate(words):
        part = part_read(k, word)
        if part is None:
            raise NoText(row, k)
        parts.append(part)
    if len(parts) < 3:
        raise NoText(row, len(parts))
    return tuple(parts)


def wishes_read(many, row, words):
    """The WISHES of so many works that the words of a row write, behind its first one."""
    wishes = ()
    for k, word in enumerate(words[1:], start=1):
        wishes += (numbers_read(word.split("<")),)
        if not is_wishes(many, wishes):
            raise NoText(row, k)
    return wishes


def read_works(lines):
    """The WORKS and WISHES that a list of texts writes."""
    works = ()
    wishes = None
    for row, line in enumerate(lines):
        words = line.split(" ")
        if wishes is not None:
            raise NoText(row, 0)
        if works != () and words[0] == "wishes":
            wishes = wishes_read(len(works), row, words)
        else:
            works += (work_read(row, words),)
    if wishes is None:
        raise NoText(len(lines), 0)
    return (works, wishes)


def is_piece_by_kind(thing):
    """Whether a tuple is a PIECE by its kind, whatever the works."""
    return len(thing) == 3 and all([is_number_from(0, part) for part in thing]) and thing[1] < thing[2]


def read_plan(text):
    """The PLAN, by kind, that a text writes."""
    pieces = ()
    for k, word in enumerate(text.split(" ")):
        piece = numbers_read(word.split(":"))
        if not is_piece_by_kind(piece) or not one_at_a_time(pieces[-1:] + (piece,)):
            raise NoText(0, k)
        pieces += (piece,)
    return pieces
