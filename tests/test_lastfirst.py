"""Points 31 to 34: a best ORDER by "greatest" where all come alike."""

import itertools
import unittest

from benchdays.asking import worth
from benchdays.breaking import greatest_plan
from benchdays.errors import NoRule
from benchdays.lastfirst import greatest_order
from benchdays.orders import is_order, run
from benchdays.plans import ends_of, is_plan
from benchdays.setchecker import bound_of, lets_set
from tests.helper import COSTS, Case, Drawn, day_plans, orders_of, renamed, sets_of, wishes_of

TIGHT = (("late", 3), ("tardy", 2, 3), ("miss", 3, 4), ("ends", 1), ("steps", ((1, 0), (3, 2), (4, 5))))
WORKS = ((3, 1, ("late", 6)), (2, 1, ("tardy", 4, 2)), (1, 1, ("miss", 5, 9)), (2, 1, ("ends", 1)))


def cost_of(works, order):
    return worth(works, ends_of(works, run(works, order)), "greatest")


class GreatestOrder(Case):

    def shows(self, works, wishes):
        """The tuple is an ORDER and a SET, and the ORDER costs what the SET shows."""
        told = greatest_order(works, wishes)
        self.assertIs(told.__class__, tuple)
        order, some = told
        self.same(is_order(works, wishes, order), True)
        self.assertIn(some, sets_of(len(works))[1:])
        self.same(cost_of(works, order), bound_of(works, wishes, some))
        self.same(lets_set(works, wishes, cost_of(works, order), some), True)
        return cost_of(works, order)

    def test_one_work_and_two(self):
        self.same(greatest_order(((3, 2, ("late", 4)),), ()), ((0,), (0,)))
        works = ((2, 5, ("late", 9)), (3, 5, ("late", 6)))
        self.same(greatest_order(works, ()), ((1, 0), (1,)))
        self.same(greatest_order(works, ((0, 1),)), ((0, 1), (0, 1)))

    def test_what_it_costs_is_the_least_of_all_orders(self):
        for wishes in wishes_of(3):
            orders = orders_of(3, wishes)
            for costs in itertools.product(TIGHT, repeat=3):
                works = tuple(zip((1, 2, 1), (1, 1, 1), costs))
                self.same(self.shows(works, wishes), min(cost_of(works, order) for order in orders))
        for wishes in wishes_of(4):
            self.same(self.shows(WORKS, wishes), min(cost_of(WORKS, order) for order in orders_of(4, wishes)))

    def test_no_plan_costs_less(self):
        for wishes in wishes_of(3):
            plans = day_plans(tuple((length, 1, TIGHT[0]) for length in (1, 2, 1)), wishes, 7)
            for costs in itertools.permutations(TIGHT, 3):
                works = tuple(zip((1, 2, 1), (1, 1, 1), costs))
                least = min(worth(works, ends, "greatest") for ends in {ends_of(works, plan) for plan in plans})
                self.same(self.shows(works, wishes), least)

    def test_eight_works_at_the_greatest_bounds(self):
        for seed in range(300):
            drawn = Drawn(seed, most=(400, 150)[seed % 2])
            works, wishes = drawn.works(8, alike=True), drawn.wishes(8)
            cost = self.shows(works, wishes)
            plan, some = greatest_plan(works, wishes)
            self.same(worth(works, ends_of(works, plan), "greatest"), cost)
        most = tuple((20, 60, ("tardy", -99, 9)) for k in range(8))
        self.same(self.shows(most, tuple((k, k - 1) for k in range(1, 8))), 9 * 319)

    def test_refused_where_they_come_unlike(self):
        for cost in COSTS:
            for works in (((2, 0, cost), (1, 1, cost)), ((2, 60, cost), (1, 60, cost), (1, 0, COSTS[0]))):
                self.refused(NoRule, {"word": "coming"}, greatest_order, works, ())
                self.refused(NoRule, {"word": "coming"}, greatest_order, works, ((0, 1),))
        self.same(greatest_order(((2, 0, ("late", 9)), (1, 0, ("late", 0))), ()), ((1, 0), (1,)))

    def test_told_things_are_handed_in_again(self):
        order, some = greatest_order(WORKS, ((0, 1),))
        self.same(is_plan(WORKS, ((0, 1),), run(WORKS, order)), True)

    def test_works_numbered_otherwise(self):
        for wishes in (((0, 2), (1, 2)), ((3, 0),), ()):
            cost = self.shows(WORKS, wishes)
            for row in itertools.permutations(range(4)):
                others, turned = renamed(WORKS, wishes, row)
                self.same(self.shows(others, turned), cost)


class WhatFollows(Case):

    def test_no_order_costs_less_than_the_plan_whatever_they_come(self):
        for seed in range(40):
            drawn = Drawn(seed, length=4, coming=8, least=0, most=15)
            works, wishes = drawn.works(5), drawn.wishes(5, 5)
            plan, some = greatest_plan(works, wishes)
            for order in orders_of(5, wishes):
                self.assertGreaterEqual(cost_of(works, order), worth(works, ends_of(works, plan), "greatest"))

    def test_neighbours_exchanged_by_dues(self):
        for seed in range(20):
            works = Drawn(seed, length=4, coming=8, least=0, most=15).works(4, ("late",), alike=True)
            for order in itertools.permutations(range(4)):
                for k in range(3):
                    one, other = order[k], order[k + 1]
                    if works[other][2][1] < works[one][2][1]:
                        turned = order[:k] + (other, one) + order[k + 2:]
                        self.assertLessEqual(cost_of(works, turned), cost_of(works, order))
            by_dues = tuple(sorted(range(4), key=lambda j: works[j][2][1]))
            best, some = greatest_order(works, ())
            self.same(cost_of(works, by_dues), cost_of(works, best))


if __name__ == "__main__":
    unittest.main()
