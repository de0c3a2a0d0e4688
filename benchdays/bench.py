"""A bench: works by their names, wishes of them, and what becomes of it as they come and go."""

from benchdays.asking import cost_of_order, cost_of_plan
from benchdays.bests import how_many
from benchdays.breaking import greatest_plan
from benchdays.days import best_order, due_worth
from benchdays.errors import NoBack, NoRule, NoWish, NoWork, TooMany
from benchdays.wishes import behind

MOST_WORKS = 8
MOST_WISHES = 16


def numbers_of(names, some):
    """The numbers of works by their names; refused with the first name that isn't there."""
    told = []
    for name in some:
        if name not in names:
            raise NoWork(name)
        told.append(names.index(name))
    return tuple(told)


def without_wish(wishes, wish):
    """The WISHES without one of them."""
    return tuple([each for each in wishes if each != wish])


def moved_up(work, j):
    """The number of a work as work j is taken."""
    return work - 1 if work > j else work


def wishes_without_work(wishes, j):
    """The WISHES without those of work j, as it is taken."""
    return tuple([(moved_up(a, j), moved_up(b, j)) for a, b in wishes if a != j and b != j])


class Bench:
    """Works by names and wishes of them, kept as (names, WORKS, WISHES), which each deed puts anew."""

    def __init__(self):
        self.held = ((), (), ())
        # Each deed that isn't taken back yet, with what was held ahead of it.
        self.deeds = []

    def do(self, deed, held):
        """Does a deed: what is held is put in the place of what was."""
        self.deeds.append((deed, self.held))
        self.held = held

    def put(self, name, work, ahead):
        """Puts a work, to be done behind some others; tells its number."""
        names, works, wishes = self.held
        if len(names) == MOST_WORKS:
            raise TooMany("works")
        if name in names:
            raise NoWork(name)
        firsts = numbers_of(names, ahead)
        if len(set(firsts)) < len(firsts):
            raise NoWish("twice")
        if len(wishes) + len(firsts) > MOST_WISHES:
            raise TooMany("wishes")
        more = wishes + tuple([(a, len(names)) for a in firsts])
        self.do(("put", name), (names + (name,), works + (work,), tuple(sorted(more))))
        return len(names)

    def wish(self, one, other):
        """Puts a WISH, the one to be done ahead of the other; tells how many there are."""
        names, works, wishes = self.held
        pair = numbers_of(names, (one, other))
        if pair[0] == pair[1] or pair[0] in behind(len(names), wishes, pair[1]):
            raise NoWish("ring")
        if pair in wishes:
            raise NoWish("twice")
        if len(wishes) == MOST_WISHES:
            raise TooMany("wishes")
        self.do(("wish", one, other), (names, works, tuple(sorted(wishes + (pair,)))))
        return len(wishes) + 1

    def unwish(self, one, other):
        """Takes a WISH away; tells how many there are."""
        names, works, wishes = self.held
        pair = numbers_of(names, (one, other))
        if pair not in wishes:
            raise NoWish("none")
        self.do(("unwish", one, other), (names, works, without_wish(wishes, pair)))
        return len(wishes) - 1

    def take(self, name):
        """Takes a work, and all WISHES with it; tells how many works there are."""
        names, works, wishes = self.held
        j = numbers_of(names, (name,))[0]
        left = wishes_without_work(wishes, j)
        self.do(("take", name), (names[:j] + names[j + 1:], works[:j] + works[j + 1:], left))
        return len(names) - 1

    def back(self):
        """Takes the last deed back; tells it."""
        if not self.deeds:
            raise NoBack()
        deed, self.held = self.deeds.pop()
        return deed

    def names(self):
        """The NAMES, by the numbers of the works."""
        return self.held[0]

    def works(self):
        """The WORKS, () of none."""
        return self.held[1]

    def wishes(self):
        """The WISHES."""
        return self.held[2]

    def held_for_asking(self):
        """What is held; refused where there are no works."""
        if self.held[0] == ():
            raise NoRule("none")
        return self.held

    def best(self, question):
        """An ORDER that costs the least of all, by names, and what it costs."""
        names, works, wishes = self.held_for_asking()
        order = best_order(works, wishes, question)
        return (tuple([names[j] for j in order]), cost_of_order(works, order, question))

    def plan(self):
        """A PLAN that costs the least of all by "greatest", by names, and what it costs."""
        names, works, wishes = self.held_for_asking()
        pieces, some = greatest_plan(works, wishes)
        named = tuple([(names[j], begin, end) for j, begin, end in pieces])
        return (named, cost_of_plan(works, pieces, "greatest"))

    def many(self, question):
        """How many BEST ORDERS there are."""
        names, works, wishes = self.held_for_asking()
        return how_many(works, wishes, question)

    def later(self, name, k, question):
        """The BEST, done whole, with the due of a work from 0 to k days later."""
        names, works, wishes = self.held_for_asking()
        j = numbers_of(names, (name,))[0]
        return due_worth(works, wishes, question, "whole", j, k)
