"""Points 55 and 56: the RATIO ORDER and the PAIR SUM."""

import itertools
import unittest
from fractions import Fraction

from benchdays.asking import worth
from benchdays.errors import NoRule
from benchdays.orders import is_order, run
from benchdays.plans import ends_of, is_plan
from benchdays.ratios import pair_sum, ratio_order
from tests.helper import COSTS, ENDS, Case, Drawn

MILLION = 10 ** 6
WORKS = ((4, 3, ("ends", 2)), (2, 3, ("ends", 1)), (1, 3, ("ends", 1)), (3, 3, ("ends", 0)), (6, 3, ("ends", 3)))


def cost_of(works, order):
    return worth(works, ends_of(works, run(works, order)), "sum")


def order_told(works):
    return tuple(sorted(range(len(works)), key=lambda j: (Fraction(-works[j][2][1], works[j][0]), j)))


def pair_sum_told(works):
    told = sum(weight * (coming + length) for length, coming, (word, weight) in works)
    for one, other in itertools.combinations(works, 2):
        told += min(one[0] * other[2][1], other[0] * one[2][1])
    return told


class Ratios(Case):

    def right(self, works):
        """Both are what the document tells; the ORDER costs the PAIR SUM."""
        order = ratio_order(works)
        self.same(order, order_told(works))
        self.same(is_order(works, (), order), True)
        self.same(pair_sum(works), pair_sum_told(works))
        self.same(cost_of(works, order), pair_sum(works))

    def test_told(self):
        self.same(ratio_order(WORKS), (2, 0, 1, 4, 3))
        self.same(pair_sum(WORKS), 4 + 2 * 8 + 10 + 3 * 16)
        self.same(ratio_order(WORKS[3:4]), (0,))
        self.same(pair_sum(WORKS[3:4]), 0)
        self.same(pair_sum(WORKS[:1]), 14)

    def test_no_order_costs_less(self):
        for lengths, weights in itertools.product(itertools.product((1, 2, 4), repeat=3), ((1, 2, 3), (0, 2, 1), (2, 2, 0))):
            works = tuple((length, 2, ("ends", weight)) for length, weight in zip(lengths, weights))
            self.right(works)
            self.same(pair_sum(works), min(cost_of(works, order) for order in itertools.permutations(range(3))))
        for seed in range(10):
            works = Drawn(seed).works(6, ("ends",), alike=True)
            self.right(works)
            self.same(pair_sum(works), min(cost_of(works, order) for order in itertools.permutations(range(6))))

    def test_eight_works_at_the_greatest_bounds(self):
        for seed in range(100):
            self.right(Drawn(seed).works(8, ("ends",), alike=True))
            self.right(Drawn(seed, length=MILLION, weight=MILLION).works(8, ("ends",), alike=True))
        self.right(tuple((MILLION, 60, ("ends", MILLION)) for k in range(8)))

    def test_ratios_hardly_unlike(self):
        works = ((MILLION, 0, ("ends", MILLION - 1)), (MILLION - 1, 0, ("ends", MILLION - 2)), (1, 0, ("ends", 1)))
        self.same(ratio_order(works), (2, 0, 1))
        self.right(works)

    def test_an_order_is_handed_in_again(self):
        self.same(is_plan(WORKS, ((2, 3),), run(WORKS, ratio_order(WORKS))), True)

    def test_refused(self):
        for action in (ratio_order, pair_sum):
            for cost in COSTS:
                self.refused(NoRule, {"word": "coming"}, action, ((2, 0, cost), (1, 1, ENDS)))
                self.refused(NoRule, {"word": "coming"}, action, ((2, 0, ENDS), (1, 1, cost)))
                if cost != ENDS:
                    self.refused(NoRule, {"word": "ends"}, action, ((2, 0, cost),))
                    self.refused(NoRule, {"word": "ends"}, action, ((2, 1, ENDS), (1, 1, cost)))


if __name__ == "__main__":
    unittest.main()
