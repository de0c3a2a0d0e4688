"""Points 45 and 46: ORDERS that are late by the least weight."""

import itertools
import unittest

from benchdays.asking import worth
from benchdays.errors import NoRule
from benchdays.latechecker import lets_table
from benchdays.lateorder import late_order, put_out
from benchdays.orders import is_order, run
from benchdays.plans import ends_of
from tests.helper import COSTS, MISS, Case, Drawn, in_time_told, sets_of, small_late_works


def cost_of(works, order):
    return worth(works, ends_of(works, run(works, order)), "sum")


class LateOrder(Case):

    def shows(self, works):
        """The tuple is an ORDER and a TABLE, and the ORDER costs what the TABLE shows."""
        told = late_order(works)
        self.assertIs(told.__class__, tuple)
        order, table = told
        self.same(is_order(works, (), order), True)
        self.same(lets_table(works, table), cost_of(works, order))
        return cost_of(works, order)

    def test_told(self):
        works = ((3, 0, ("miss", 3, 2)), (2, 0, ("miss", 2, 3)), (1, 0, ("miss", 9, 1)))
        order, table = late_order(works)
        self.same(self.shows(works), 2)
        self.same(order.index(1), 0)
        self.same(self.shows(works[:1]), 0)
        self.same(self.shows(((3, 1, ("miss", 3, 2)),)), 2)
        self.same(self.shows(((3, 1, ("miss", -99, 0)),)), 0)

    def test_no_order_costs_less(self):
        for works in small_late_works():
            self.same(self.shows(works), min(cost_of(works, order) for order in itertools.permutations(range(3))))
        for seed in range(30):
            works = Drawn(seed, length=9, coming=5, least=0, most=30).works(5, ("miss",), alike=True)
            self.same(self.shows(works), min(cost_of(works, order) for order in itertools.permutations(range(5))))

    def test_eight_works_at_the_greatest_bounds(self):
        for seed in range(100):
            works = Drawn(seed, most=(400, 150)[seed % 2]).works(8, ("miss",), alike=True)
            self.shows(works)
        self.same(self.shows(tuple((20, 60, ("miss", 400, 9)) for k in range(8))), 0)
        self.same(self.shows(tuple((20, 60, ("miss", 79, 9)) for k in range(8))), 72)


class PutOut(Case):

    def right(self, works):
        """Both SETS are what the document tells of them."""
        told = put_out(works)
        self.assertEqual([each.__class__ for each in (told,) + told], [tuple] * 3)
        kept, out = told
        self.assertIn(repr(kept), [repr(some) for some in sets_of(len(works))])
        self.assertIn(repr(out), [repr(some) for some in sets_of(len(works))])
        self.assertEqual(sorted(kept + out), list(range(len(works))))
        self.assertTrue(in_time_told(works, kept))
        lengths = sorted(works[j][0] for j in kept)
        least = {}
        for some in sets_of(len(works)):
            if in_time_told(works, some):
                least.setdefault(len(some), []).append(sum(works[j][0] for j in some))
        self.assertEqual(max(least), len(kept))
        for j in range(1, len(kept) + 1):
            self.assertEqual(sum(lengths[:j]), min(least[j]))

    def test_told(self):
        works = ((3, 0, ("miss", 3, 2)), (2, 0, ("miss", 4, 2)), (1, 0, ("miss", 5, 2)))
        self.same(put_out(works), ((1, 2), (0,)))
        self.same(put_out(works[:1]), ((0,), ()))
        self.same(put_out(((3, 1, ("miss", 3, 2)),)), ((), (0,)))

    def test_small_ones(self):
        for lengths in itertools.product((1, 2, 3), repeat=4):
            for dues in ((1, 2, 3, 4), (4, 4, 4, 4), (6, 3, 2, 3), (-1, 0, 5, 5), (9, 8, 5, 3)):
                self.right(tuple((length, 1, ("miss", due, 3)) for length, due in zip(lengths, dues)))

    def test_weights_of_nought(self):
        self.same(put_out(((3, 0, ("miss", 3, 0)), (2, 0, ("miss", 4, 0)))), ((1,), (0,)))

    def test_eight_works_at_the_greatest_bounds(self):
        for seed in range(60):
            drawn = Drawn(seed, most=(400, 150)[seed % 2])
            works = drawn.works(8, ("miss",), alike=True)
            self.right(tuple((length, coming, (word, due, 9)) for length, coming, (word, due, weight) in works))

    def test_refused(self):
        for cost in COSTS:
            for action in (late_order, put_out):
                self.refused(NoRule, {"word": "coming"}, action, ((2, 0, cost), (1, 1, MISS)))
                if cost != MISS:
                    self.refused(NoRule, {"word": "miss"}, action, ((2, 1, cost),))
                    self.refused(NoRule, {"word": "miss"}, action, ((2, 1, MISS), (1, 1, cost)))
                    self.refused(NoRule, {"word": "miss"}, action, ((2, 1, cost), (1, 1, MISS)))

    def test_refused_where_two_weights_are_unlike(self):
        works = ((2, 1, ("miss", 9, 3)), (1, 1, ("miss", 9, 3)), (1, 1, ("miss", 9, 4)))
        self.refused(NoRule, {"word": "weights"}, put_out, works)
        self.refused(NoRule, {"word": "weights"}, put_out, works[1:])
        self.refused(NoRule, {"word": "weights"}, put_out, ((2, 1, ("miss", 9, 0)), (2, 1, ("miss", 9, 1))))
        self.refused(NoRule, {"word": "miss"}, put_out, works + ((1, 1, ("tardy", 9, 3)),))
        self.refused(NoRule, {"word": "coming"}, put_out, works + ((1, 2, ("miss", 9, 3)),))


if __name__ == "__main__":
    unittest.main()
