"""Points 60 to 62: JOINED BLOCKS, and the ORDER and PRICES made of them."""

import itertools
import unittest
from fractions import Fraction

from benchdays.asking import worth
from benchdays.errors import NoPaper, NoRule
from benchdays.fractions import is_fraction
from benchdays.joining import forest_order, joined
from benchdays.orders import is_order, run
from benchdays.plans import ends_of
from benchdays.pricechecker import gain, priced
from benchdays.ratios import ratio_order
from benchdays.wishes import is_forest
from tests.helper import COSTS, ENDS, Case, Drawn, orders_of, wishes_of

MILLION = 10 ** 6
WORKS = ((2, 3, ("ends", 1)), (1, 3, ("ends", 4)), (4, 3, ("ends", 0)), (1, 3, ("ends", 2)))


def ratio(works, some):
    return Fraction(sum(works[j][2][1] for j in some), sum(works[j][0] for j in some))


def line_told(works, wishes, some):
    """The LINE of some works, as the document tells it."""
    blocks = [block for a in sorted(some) for block in row_told(works, wishes, a)]
    return sorted(blocks, key=lambda block: -ratio(works, block))


def row_told(works, wishes, a):
    line = line_told(works, wishes, [b for one, b in wishes if one == a])
    block = (a,)
    while line and ratio(works, line[0]) > ratio(works, block):
        block += line.pop(0)
    return [block] + line


def joined_told(works, wishes):
    return line_told(works, wishes, set(range(len(works))) - {b for a, b in wishes})


def cost_of(works, order):
    return worth(works, ends_of(works, run(works, order)), "sum")


def forests_of(many):
    return [wishes for wishes in wishes_of(many) if len({b for a, b in wishes}) == len(wishes)]


class Joined(Case):

    def test_told(self):
        self.same(joined(WORKS, ()), [(1,), (3,), (0,), (2,)])
        self.same(joined(WORKS, ((0, 1),)), [(3,), (0, 1), (2,)])
        self.same(joined(WORKS, ((2, 1),)), [(3,), (2, 1), (0,)])
        self.same(joined(WORKS, ((0, 2), (2, 1))), [(3,), (0, 2, 1)])
        self.same(joined(WORKS, ((2, 0), (2, 1), (2, 3))), [(2, 1, 3), (0,)])
        self.same(joined(WORKS, ((1, 0),)), [(1,), (3,), (0,), (2,)])
        self.same(joined(WORKS[:1], ()), [(0,)])

    def test_of_one_ratio_none_is_taken(self):
        works = ((2, 0, ("ends", 2)), (1, 0, ("ends", 1)), (3, 0, ("ends", 3)))
        self.same(joined(works, ((1, 0),)), [(1,), (0,), (2,)])
        self.same(joined(works, ((2, 0), (2, 1))), [(2,), (0,), (1,)])
        self.same(joined(works, ((1, 2),)), [(0,), (1,), (2,)])

    def test_all_forests_of_four_works(self):
        for works in (WORKS, tuple((length, 0, ("ends", 1)) for length in (1, 1, 2, 1))):
            for wishes in forests_of(4):
                self.same(joined(works, wishes), joined_told(works, wishes))

    def test_what_the_blocks_are_like(self):
        for seed in range(40):
            drawn = Drawn(seed)
            works, wishes = drawn.works(8, ("ends",), alike=True), drawn.forest(8)
            blocks = joined(works, wishes)
            self.assertEqual(sorted(j for block in blocks for j in block), list(range(8)))
            ratios = [ratio(works, block) for block in blocks]
            self.assertEqual(ratios, sorted(ratios, reverse=True))
            for block in blocks:
                self.parts_are_below(works, wishes, block)

    def parts_are_below(self, works, wishes, block):
        for size in range(1, len(block)):
            for part in itertools.combinations(block, size):
                if all(a in part for a, b in wishes if b in part and a in block):
                    self.assertLess(ratio(works, part), ratio(works, block))

    def test_without_wishes_as_in_the_ratio_order(self):
        for seed in range(20):
            works = Drawn(seed, length=4, weight=3).works(8, ("ends",), alike=True)
            self.same(joined(works, ()), [(j,) for j in ratio_order(works)])

    def test_eight_works_at_the_greatest_bounds(self):
        for seed in range(200):
            drawn = Drawn(seed, length=(20, MILLION, 2)[seed % 3], weight=(9, MILLION, 2)[seed % 3])
            works, wishes = drawn.works(8, ("ends",), alike=True), drawn.forest(8)
            self.same(is_forest(8, wishes), True)
            self.same(joined(works, wishes), joined_told(works, wishes))

    def test_told_anew_at_each_call(self):
        first = joined(WORKS, ((0, 1),))
        first.append("more")
        del first[0]
        self.same(joined(WORKS, ((0, 1),)), [(3,), (0, 1), (2,)])


class ForestOrder(Case):

    def shows(self, works, wishes):
        """The tuple is the ORDER of the JOINED BLOCKS and PRICES that SHOW what it costs."""
        told = forest_order(works, wishes)
        self.assertIs(told.__class__, tuple)
        order, prices = told
        self.same(order, tuple(j for block in joined_told(works, wishes) for j in block))
        self.same(is_order(works, wishes, order), True)
        self.same(priced(works, wishes, prices), (cost_of(works, order), 1))
        self.assertLessEqual(len(prices), 20)
        for a, some, price in prices:
            self.same(is_fraction(price), True)
            self.assertLess(max(price), 10 ** 30)
        return cost_of(works, order)

    def test_told(self):
        order, prices = forest_order(WORKS, ((0, 1),))
        self.same(order, (3, 0, 1, 2))
        self.same(self.shows(WORKS, ((0, 1),)), 2 * 4 + 6 + 4 * 7)
        self.same(self.shows(WORKS, ()), 4 * 4 + 2 * 5 + 7)
        self.same(self.shows(WORKS[2:3], ()), 0)

    def test_all_forests_of_four_works_are_best(self):
        for works in (WORKS, tuple((length, 0, ("ends", 1)) for length in (1, 1, 2, 1))):
            for wishes in forests_of(4):
                self.same(self.shows(works, wishes), min(cost_of(works, order) for order in orders_of(4, wishes)))

    def test_eight_works_at_the_greatest_bounds(self):
        for seed in range(300):
            drawn = Drawn(seed, length=(20, MILLION, 2)[seed % 3], weight=(9, MILLION, 2)[seed % 3])
            self.shows(drawn.works(8, ("ends",), alike=True), drawn.forest(8))
        for works in (tuple((MILLION - k, 60, ("ends", (MILLION // 8) * k)) for k in range(8)),
                      tuple((k + 1, 60, ("ends", k)) for k in range(8))):
            self.shows(works, tuple((k, k + 1) for k in range(7)))
            self.shows(works, tuple((k + 1, k) for k in range(7)))
            self.shows(works, tuple((0, k) for k in range(1, 8)))
            self.shows(works, tuple((7, k) for k in range(7)))

    def test_what_is_told_is_handed_in_again(self):
        order, prices = forest_order(WORKS, ((2, 1), (2, 3)))
        for block in joined(WORKS, ((2, 1), (2, 3))):
            self.assertGreater(gain(WORKS, tuple(sorted(block))), 0)
        self.assertEqual([a for a, some, price in prices], [2, 2])
        self.refused(NoPaper, {"path": (0,), "word": "behind"}, priced, WORKS, ((1, 2), (2, 3)), prices)
        self.same(is_fraction(priced(WORKS, ((0, 3), (2, 1), (2, 3)), prices)), True)

    def test_refused(self):
        forked = ((0, 2), (1, 2))
        for action in (joined, forest_order):
            for cost in COSTS:
                works = ((2, 0, ENDS), (1, 0, ENDS), (1, 1, cost))
                self.refused(NoRule, {"word": "coming"}, action, works, ())
                self.refused(NoRule, {"word": "coming"}, action, works, forked)
                if cost != ENDS:
                    works = ((2, 1, ENDS), (1, 1, ENDS), (1, 1, cost))
                    self.refused(NoRule, {"word": "ends"}, action, works, ())
                    self.refused(NoRule, {"word": "ends"}, action, works, forked)
            self.refused(NoRule, {"word": "forest"}, action, WORKS, forked)
            self.refused(NoRule, {"word": "forest"}, action, WORKS, ((0, 1), (0, 2), (1, 2)))


if __name__ == "__main__":
    unittest.main()
