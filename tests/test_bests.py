"""Points 73 to 75: BEST ORDERS of works that come alike."""

import copy
import itertools
import unittest

from benchdays.bests import best, bests_told, how_many, is_best, kth
from benchdays.errors import NoRule, TooMany
from benchdays.lastfirst import greatest_order
from benchdays.setjudge import lets_settable
from benchdays.settable import set_table
from tests.helper import (COSTS, ENDS, HUGE, QUESTIONS, Case, Drawn, any_things, cost_told, costs_told, orders_of, renamed,
                          spoiled, wishes_of)

TIGHT = (("late", 3), ("tardy", 2, 3), ("miss", 3, 4), ("ends", 1), ("steps", ((1, 0), (3, 2), (4, 5))))
WORKS = ((3, 1, ("late", 6)), (2, 1, ("tardy", 4, 2)), (1, 1, ("miss", 5, 9)), (2, 1, ("ends", 1)))
ALIKE = tuple((1, 0, ("miss", 400, 1)) for k in range(7))


def bests_of(works, wishes, question):
    """All BEST ORDERS, rising, by going through all orders."""
    orders = sorted(orders_of(len(works), wishes))
    costs = [cost_told(works, order, question) for order in orders]
    return [order for order, cost in zip(orders, costs) if cost == min(costs)]


class Bests(Case):

    def all_told(self, works, wishes, question):
        """All that is told of BEST ORDERS is what going through all orders tells; how many there are."""
        wanted = bests_of(works, wishes, question)
        told = best(works, wishes, question)
        self.assertIs(told.__class__, tuple)
        order, table = told
        self.assertIn(repr(order), [repr(each) for each in wanted])
        self.same(table, set_table(works, wishes, question))
        self.same(lets_settable(works, wishes, question, table), cost_told(works, order, question))
        self.same(how_many(works, wishes, question), len(wanted))
        if len(wanted) > 200:
            self.refused(TooMany, {"word": "orders"}, bests_told, works, wishes, question)
        else:
            self.same(bests_told(works, wishes, question), wanted)
        for k in sorted({0, 1, len(wanted) // 2, len(wanted) - 1}):
            if k < len(wanted):
                self.same(kth(works, wishes, question, k), wanted[k])
        for k in (-1, len(wanted), HUGE, -HUGE):
            self.refused(NoRule, {"word": "k"}, kth, works, wishes, question, k)
        return len(wanted)

    def test_told(self):
        works = ((2, 1, ("late", 4)), (3, 1, ("late", 2)))
        self.same(best(works, (), "greatest"), ((1, 0), (None, -1, 2, 2)))
        self.same(best(works, (), "sum"), ((0, 1), (0, -1, 2, 3)))
        self.same(bests_told(works, ((0, 1),), "greatest"), [(0, 1)])
        self.same(how_many(ALIKE[:3], (), "sum"), 6)
        self.same(bests_told(ALIKE[:3], ((2, 0),), "sum"), [(1, 2, 0), (2, 0, 1), (2, 1, 0)])
        self.same(kth(ALIKE[:3], ((2, 0),), "greatest", 1), (2, 0, 1))
        self.same(self.all_told(works[:1], (), "sum"), 1)

    def test_all_wishes_of_three_works(self):
        for wishes in wishes_of(3):
            for costs in itertools.product(TIGHT, repeat=3):
                works = tuple(zip((1, 2, 1), (1, 1, 1), costs))
                for question in QUESTIONS:
                    self.all_told(works, wishes, question)

    def test_all_wishes_of_four_works(self):
        for wishes in wishes_of(4)[::2]:
            for question in QUESTIONS:
                self.all_told(WORKS, wishes, question)

    def test_beginnings_that_lead_nowhere(self):
        # By "greatest" 0 may go first without costing too much, but then each other one is too late.
        works = ((5, 0, ("miss", 9, 9)), (1, 0, ("miss", 1, 9)), (1, 0, ("miss", 6, 1)))
        self.same(bests_told(works, (), "greatest"), [(1, 2, 0)])
        # By "sum" (0, 1) is a best order of its two works, yet no beginning of a best one.
        works = ((1, 0, ENDS), (1, 0, ENDS), (1, 0, ("tardy", 1, 9)))
        self.same(bests_told(works, (), "sum"), [(2, 0, 1), (2, 1, 0)])

    def test_seven_works_at_the_greatest_bounds(self):
        for seed in range(8):
            drawn = Drawn(seed, most=(400, 150)[seed % 2])
            works, wishes = drawn.works(7, alike=True), drawn.wishes(7)
            self.all_told(works, wishes, QUESTIONS[seed // 2 % 2])

    def test_all_orders_best_and_as_many_as_are_told_and_one_more(self):
        for question in QUESTIONS:
            self.same(self.all_told(ALIKE, (), question), 5040)
            self.same(kth(ALIKE, (), question, 5039), (6, 5, 4, 3, 2, 1, 0))
            self.same(kth(ALIKE, (), question, 720), (1, 0, 2, 3, 4, 5, 6))
        crossed = ((3, 0), (3, 2), (5, 0), (5, 1), (5, 4), (6, 1), (6, 2), (6, 4))
        self.same(self.all_told(ALIKE, crossed, "sum"), 200)
        dues = tuple((1, 0, ("miss", due, 1)) for due in (6, 7, 3, 4, 7, 6, 6))
        self.same(self.all_told(dues, ((3, 0), (3, 4), (6, 1)), "greatest"), 201)

    def test_told_anew_at_each_call(self):
        first = bests_told(ALIKE[:3], (), "sum")
        kept = list(first)
        first.append("more")
        del first[0]
        self.same(bests_told(ALIKE[:3], (), "sum"), kept)

    def test_why(self):
        for wishes in wishes_of(4)[::9]:
            sums, most = set_table(WORKS, wishes, "sum"), set_table(WORKS, wishes, "greatest")[-1]
            for order in orders_of(4, wishes):
                costs = costs_told(WORKS, order)
                begun = all(sum(costs[:k + 1]) == sums[sum(2 ** j for j in order[:k + 1])] for k in range(4))
                self.same(is_best(WORKS, wishes, "sum", order), begun)
                self.same(is_best(WORKS, wishes, "greatest", order), max(costs) <= most)

    def test_by_greatest_the_last_one_first_costs_the_same(self):
        for seed in range(60):
            drawn = Drawn(seed, most=(400, 150)[seed % 2])
            works, wishes = drawn.works(7, alike=True), drawn.wishes(7)
            order, some = greatest_order(works, wishes)
            self.same(is_best(works, wishes, "greatest", order), True)

    def test_works_numbered_otherwise(self):
        for question in QUESTIONS:
            for wishes in (((0, 2), (1, 2)), ((3, 0),), ()):
                many, cost = how_many(WORKS, wishes, question), best(WORKS, wishes, question)[1][-1]
                for row in itertools.permutations(range(4)):
                    others, turned = renamed(WORKS, wishes, row)
                    self.same(how_many(others, turned, question), many)
                    self.same(best(others, turned, question)[1][-1], cost)


class IsBest(Case):

    def test_all_orders(self):
        for question in QUESTIONS:
            for wishes in wishes_of(4)[::5]:
                wanted = bests_of(WORKS, wishes, question)
                for row in itertools.permutations(range(4)):
                    self.same(is_best(WORKS, wishes, question, row), row in wanted)

    def test_any_thing(self):
        for question in QUESTIONS:
            self.tells_of_any_thing(lambda thing: is_best(WORKS, (), question, thing))
            self.no_spoiled(lambda thing: is_best(ALIKE[:3], (), question, thing), (0, 1, 2))
            for thing in any_things():
                kept = copy.deepcopy(thing)
                wanted = repr(thing) in [repr(row) for row in itertools.permutations(range(2))]
                self.same(is_best(ALIKE[:2], (), question, thing), wanted)
                self.same(thing, kept)
        for thing in ([0, 1, 2], (0, 1), (0, 1, 2, 2), (0, True, 2), (False, 1, 2), (0, 1, 3), (2, 1, 0, 3), ()):
            self.same(is_best(ALIKE[:3], (), "sum", thing), False)

    def test_spoiled_things_are_left(self):
        for thing in spoiled((1, 0)):
            kept = copy.deepcopy(thing)
            self.same(is_best(ALIKE[:2], (), "sum", thing), False)
            self.same(thing, kept)


class Refused(Case):

    def test_each(self):
        actions = [best, how_many, bests_told]
        actions += [lambda works, wishes, question, k=k: kth(works, wishes, question, k) for k in (-1, 0, HUGE)]
        actions += [lambda works, wishes, question, thing=thing: is_best(works, wishes, question, thing)
                    for thing in (None, (0, 1), [])]
        for action, question, cost in itertools.product(actions, QUESTIONS, COSTS):
            self.refused(TooMany, {"word": "works"}, action, ((2, 0, cost),) * 8, (), question)
            self.refused(TooMany, {"word": "works"}, action, ((2, 0, cost),) * 7 + ((2, 1, ENDS),), ((0, 1),), question)
            self.refused(NoRule, {"word": "coming"}, action, ((2, 0, cost),) * 6 + ((2, 1, ENDS),), (), question)
            self.refused(NoRule, {"word": "coming"}, action, ((2, 0, cost), (2, 1, cost)), ((0, 1),), question)


if __name__ == "__main__":
    unittest.main()
