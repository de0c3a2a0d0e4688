"""Points 26 and 27: what a SET shows."""

import copy
import itertools
import unittest

from benchdays.asking import worth
from benchdays.errors import NoPaper
from benchdays.plans import ends_of
from benchdays.setchecker import bound_of, lets_set
from benchdays.wishes import ahead
from tests.helper import HUGE, Case, any_things, day_plans, sets_of, spoiled, wishes_of

WORKS = ((3, 2, ("late", 4)), (2, 0, ("tardy", 6, 2)), (4, 9, ("miss", 7, 9)), (1, 0, ("ends", 1)))
CHAIN = ((0, 1), (1, 3), (2, 3))
# Costs that small works may meet or miss.
TIGHT = (("late", 3), ("tardy", 2, 3), ("miss", 3, 4), ("ends", 1), ("steps", ((1, 0), (3, 2), (4, 5))))


class Bound(Case):

    def test_of_one_work(self):
        self.same(bound_of(WORKS, (), (0,)), 1)
        self.same(bound_of(WORKS, (), (1,)), 0)
        self.same(bound_of(WORKS, (), (2,)), 9)
        self.same(bound_of(WORKS, (), (3,)), 1)

    def test_by_the_heads_of_all_works(self):
        self.same(bound_of(WORKS, CHAIN, (1,)), 2)
        self.same(bound_of(WORKS, CHAIN, (3,)), 14)
        self.same(bound_of(WORKS, CHAIN, (1, 3)), 8)

    def test_the_least_head_and_the_least_cost(self):
        self.same(bound_of(WORKS, (), (0, 1)), 0)
        self.same(bound_of(WORKS, (), (0, 1, 3)), 0)
        self.same(bound_of(WORKS, (), (0, 2)), 5)
        self.same(bound_of(WORKS, (), (0, 1, 2, 3)), 6)
        self.same(bound_of(WORKS, CHAIN, (0, 1, 2, 3)), 12)

    def test_last_ones_through_works_outside(self):
        self.same(bound_of(WORKS, CHAIN, (0, 3)), 6)
        self.same(bound_of(WORKS, ((0, 1), (1, 2)), (0, 2)), 9)
        self.same(bound_of(WORKS, ((0, 1),), (0, 2)), 5)
        self.same(bound_of(WORKS, CHAIN, (0, 1, 2)), 9)

    def test_below_nought(self):
        self.same(bound_of(((1, 0, ("late", 400)), (2, 0, ("late", 99))), (), (0, 1)), -397)

    def test_no_plan_costs_less(self):
        for comings in ((0, 0, 0), (2, 0, 1), (0, 3, 0)):
            for wishes in wishes_of(3):
                plans = day_plans(tuple((length, coming, TIGHT[0]) for length, coming in zip((1, 2, 1), comings)), wishes, 7)
                for costs in itertools.permutations(TIGHT, 3):
                    self.bounds_hold(tuple(zip((1, 2, 1), comings, costs)), wishes, plans)

    def bounds_hold(self, works, wishes, plans):
        least = min(worth(works, ends, "greatest") for ends in {ends_of(works, plan) for plan in plans})
        bounds = [bound_of(works, wishes, some) for some in sets_of(3) if some]
        # Some SET always shows what a best PLAN costs, so no BOUND is told too small either.
        self.assertEqual(max(bounds), least)


class LetsSet(Case):

    def no(self, path, word, number, thing, wishes=CHAIN):
        self.refused(NoPaper, {"path": path, "word": word}, lets_set, WORKS, wishes, number, thing)

    def test_true_up_to_the_bound(self):
        for wishes in ((), CHAIN):
            for some in sets_of(4):
                if some:
                    bound = bound_of(WORKS, wishes, some)
                    for number in (bound, bound - 1, -HUGE):
                        self.same(lets_set(WORKS, wishes, number, some), True)
                    for number in (bound + 1, HUGE):
                        self.no((), "less", number, some, wishes)

    def test_shape(self):
        for thing in [(), [], [0], None, True, 0, 1, HUGE, "", "0", [(0,)]]:
            for number in (-HUGE, 0, HUGE):
                self.no((), "shape", number, thing)

    def test_entry(self):
        rows = [((4,), 0), ((-1,), 0), ((True,), 0), ((None,), 0), (("0",), 0), (((0,),), 0), (([],), 0), ((HUGE,), 0)]
        rows += [((0, 0), 1), ((1, 0), 1), ((0, 4), 1), ((0, True), 1), ((0, 2, 1), 2), ((0, 1, 2, 3, 3), 4)]
        rows += [((0, 1, 2, 3, 4), 4), ((0, 1, -HUGE), 2), ((False, 1), 0), ((0, None, 4, 0), 1), ((0, [1], 2), 1)]
        rows += [((3, 2, 9), 1), ((9, 0, 0), 0), (tuple(range(5000)), 4), ((0, 1, 1, 2), 2)]
        for thing, k in rows:
            for number in (-HUGE, 0, HUGE):
                self.no((k,), "entry", number, thing)

    def test_less(self):
        self.no((), "less", 7, (0, 3))
        self.no((), "less", 13, (0, 1, 2, 3))
        self.no((), "less", HUGE, (0,))
        self.same(lets_set(WORKS, CHAIN, 6, (0, 3)), True)
        self.same(lets_set(WORKS, CHAIN, 12, (0, 1, 2, 3)), True)
        self.same(lets_set(WORKS, CHAIN, -HUGE, (0,)), True)

    def test_any_thing(self):
        for thing in any_things() + spoiled((0, 2, 3)):
            kept = copy.deepcopy(thing)
            wanted = self.told(thing)
            for number in (-HUGE, HUGE):
                if wanted == ():
                    if number < 0:
                        self.same(lets_set(WORKS, CHAIN, number, thing), True)
                    else:
                        self.no((), "less", number, thing)
                else:
                    self.no(wanted[0], wanted[1], number, thing)
            self.same(thing, kept)

    def told(self, thing):
        """The refusal by shape or entry, as the document tells it; () where there is none."""
        if thing.__class__ is not tuple or len(thing) == 0:
            return ((), "shape")
        for k in range(len(thing)):
            if thing[k].__class__ is not int or thing[k] not in range(4) or (k > 0 and not thing[k] > thing[k - 1]):
                return ((k,), "entry")
        return ()

    def test_told_sets_are_handed_in_again(self):
        self.same(lets_set(WORKS, CHAIN, 9, ahead(4, CHAIN, 3)), True)


if __name__ == "__main__":
    unittest.main()
