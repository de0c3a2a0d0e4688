"""Points 63 to 66: exchanges of neighbours, SETTLED orders, and lengths and weights turned about."""

import itertools
import unittest

from benchdays.errors import NoRule
from benchdays.joining import forest_order
from benchdays.ratios import pair_sum, ratio_order
from benchdays.swapping import settled, swap_gain
from tests.helper import COSTS, HUGE, Case, Drawn, cost_told, orders_of, wishes_of

MILLION = 10 ** 6
WORKS = ((3, 2, ("late", 6)), (2, 2, ("tardy", 4, 2)), (1, 2, ("miss", 5, 9)), (2, 2, ("ends", 1)))


def exchanged(order, k):
    return order[:k] + (order[k + 1], order[k]) + order[k + 2:]


def gain_told(works, order, k):
    return cost_told(works, order, "sum") - cost_told(works, exchanged(order, k), "sum")


def settled_told(works, wishes, order):
    return all(gain_told(works, order, k) <= 0 for k in range(len(order) - 1) if order[k:k + 2] not in wishes)


def least_told(works, wishes):
    return min(cost_told(works, order, "sum") for order in orders_of(len(works), wishes))


class SwapGain(Case):

    def test_told(self):
        works = ((1, 0, ("ends", 2)), (3, 0, ("ends", 5)))
        self.same(swap_gain(works, (0, 1), 0), (2 + 20) - (15 + 8))
        self.same(swap_gain(works, (1, 0), 0), 1)
        self.same(swap_gain(((2, 1, ("late", 7)), (4, 1, ("late", 1))), (0, 1), 0), -2)
        self.same(swap_gain(((2, 1, ("miss", 3, 4)), (4, 1, ("miss", 5, 4))), (1, 0), 0), 0)
        self.same(swap_gain(((2, 1, ("miss", 3, 4)), (4, 1, ("miss", 5, 7))), (0, 1), 0), 3)

    def test_all_orders_of_all_costs(self):
        for costs in itertools.permutations(COSTS, 4):
            works = tuple(zip((3, 1, 2, 2), (1,) * 4, costs))
            for order in itertools.permutations(range(4)):
                for k in range(3):
                    self.same(swap_gain(works, order, k), gain_told(works, order, k))

    def test_eight_works_at_the_greatest_bounds(self):
        for seed in range(100):
            drawn = Drawn(seed, most=(400, 150)[seed % 2])
            works = drawn.works(8, alike=True)
            order = tuple(drawn.row(8))
            for k in range(7):
                self.same(swap_gain(works, order, k), gain_told(works, order, k))
        for seed in range(20):
            drawn = Drawn(seed, length=MILLION, weight=MILLION)
            works = drawn.works(8, ("ends",), alike=True)
            for k in range(7):
                self.same(swap_gain(works, tuple(range(8)), k), gain_told(works, tuple(range(8)), k))
        works = ((MILLION, 60, ("ends", MILLION)), (1, 60, ("ends", MILLION)))
        self.same(swap_gain(works, (0, 1), 0), MILLION * (MILLION - 1))

    def test_no_such_place(self):
        for k in (-1, 3, 4, 999, -999, HUGE, -HUGE):
            self.refused(NoRule, {"word": "k"}, swap_gain, WORKS, (0, 1, 2, 3), k)
        for k in (-1, 0, 1):
            self.refused(NoRule, {"word": "k"}, swap_gain, WORKS[:1], (0,), k)
        self.same(swap_gain(WORKS, (0, 1, 2, 3), 2), gain_told(WORKS, (0, 1, 2, 3), 2))

    def test_refused_where_they_come_unlike(self):
        for cost in COSTS:
            for k in (-1, 0, 1, 9):
                self.refused(NoRule, {"word": "coming"}, swap_gain, ((2, 0, cost), (1, 1, cost)), (1, 0), k)


class Settled(Case):

    def test_told(self):
        works = ((1, 0, ("ends", 2)), (3, 0, ("ends", 5)), (1, 0, ("ends", 2)))
        self.same(settled(works, (), (0, 2, 1)), True)
        self.same(settled(works, (), (2, 0, 1)), True)
        self.same(settled(works, (), (1, 0, 2)), False)
        self.same(settled(works, ((1, 0),), (1, 0, 2)), True)
        self.same(settled(works, ((1, 2),), (1, 0, 2)), False)
        self.same(settled(works, ((1, 0), (1, 2)), (1, 0, 2)), True)
        self.same(settled(works, ((0, 2), (1, 0)), (1, 0, 2)), True)
        self.same(settled(works[:1], (), (0,)), True)

    def test_only_wishes_themselves_hold_neighbours(self):
        works = ((3, 0, ("ends", 0)), (1, 0, ("ends", 9)), (1, 0, ("ends", 1)))
        self.same(settled(works, ((0, 2),), (0, 1, 2)), False)
        self.same(settled(works, ((0, 1),), (0, 1, 2)), True)

    def test_all_wishes_of_four_works(self):
        for wishes in wishes_of(4)[::2]:
            for order in orders_of(4, wishes):
                self.same(settled(WORKS, wishes, order), settled_told(WORKS, wishes, order))

    def test_eight_works_at_the_greatest_bounds(self):
        seen = set()
        for seed in range(200):
            drawn = Drawn(seed, most=(400, 150)[seed % 2])
            works, row = drawn.works(8, alike=True), drawn.row(8)
            wishes = tuple(sorted({(row[k], row[k + 1]) for k in range(7) if drawn.up_to(4)}))
            seen.add(settled(works, wishes, tuple(row)))
            self.same(settled(works, wishes, tuple(row)), settled_told(works, wishes, tuple(row)))
        self.assertEqual(seen, {True, False})
        for seed in range(10):
            works = Drawn(seed, length=MILLION, weight=MILLION).works(8, ("ends",), alike=True)
            self.same(settled(works, (), ratio_order(works)), True)

    def test_refused_where_they_come_unlike(self):
        for cost in COSTS:
            works = ((2, 0, cost), (1, 1, cost))
            self.refused(NoRule, {"word": "coming"}, settled, works, (), (1, 0))
            self.refused(NoRule, {"word": "coming"}, settled, works, ((1, 0),), (1, 0))


class WhatFollows(Case):

    def test_a_best_order_is_settled(self):
        for seed in range(60):
            drawn = Drawn(seed, length=4, coming=5, least=0, most=20)
            works, wishes = drawn.works(5, alike=True), drawn.wishes(5, 5)
            least = least_told(works, wishes)
            for order in orders_of(5, wishes):
                if cost_told(works, order, "sum") == least:
                    self.same(settled(works, wishes, order), True)

    def test_each_settled_order_of_ends_or_late_is_best(self):
        for seed in range(40):
            works = Drawn(seed, length=3, coming=5, weight=3).works(5, (("ends", "late")[seed % 2],), alike=True)
            least = least_told(works, ())
            for order in itertools.permutations(range(5)):
                self.same(settled(works, (), order), cost_told(works, order, "sum") == least)

    def test_whoever_exchanges_comes_to_a_best_one(self):
        for seed in range(60):
            drawn = Drawn(seed, length=(20, MILLION)[seed % 2], weight=(9, MILLION)[seed % 2])
            works = drawn.works(6, (("ends", "late")[seed // 2 % 2],), alike=True)
            first = order = tuple(drawn.row(6))
            gained = 0
            while not settled(works, (), order):
                k = drawn.source.choice([k for k in range(5) if swap_gain(works, order, k) > 0])
                gained += swap_gain(works, order, k)
                order = exchanged(order, k)
            self.same(cost_told(works, order, "sum"), least_told(works, ()))
            self.same(gained, cost_told(works, first, "sum") - least_told(works, ()))

    def turned_about(self, works):
        return tuple((cost[1], coming, ("ends", length)) for length, coming, cost in works)

    def test_lengths_and_weights_turned_about(self):
        for seed in range(60):
            drawn = Drawn(seed, coming=0, length=(20, MILLION)[seed % 2], weight=(8, MILLION - 1)[seed % 2])
            works = tuple((length, 0, ("ends", weight + 1)) for length, coming, (word, weight) in drawn.works(6, ("ends",)))
            others = self.turned_about(works)
            self.same(pair_sum(others), pair_sum(works))
            for order in itertools.islice(itertools.permutations(range(6)), 0, 720, 31):
                self.same(cost_told(others, order[::-1], "sum"), cost_told(works, order, "sum"))
            row = drawn.row(6)
            wishes = tuple(sorted((row[k], row[k + 1]) for k in range(5) if drawn.up_to(2)))
            turned = tuple(sorted((b, a) for a, b in wishes))
            one, prices = forest_order(works, wishes)
            other, prices = forest_order(others, turned)
            self.same(cost_told(others, other, "sum"), cost_told(works, one, "sum"))


if __name__ == "__main__":
    unittest.main()
