"""Point 78: a best ORDER of at most five whole works, however they come, and CASES that show it."""

import itertools
import unittest

from benchdays.casechecker import lets_cases
from benchdays.casing import whole_best
from benchdays.errors import NoPaper, TooMany
from benchdays.orders import is_order
from tests.helper import COSTS, QUESTIONS, Case, Drawn, cost_told, orders_of, renamed, wishes_of

TIGHT = (("late", 3), ("tardy", 2, 3), ("miss", 3, 4), ("ends", 1), ("steps", ((1, 0), (3, 2), (4, 5))))


class WholeBest(Case):

    def shows(self, works, wishes, question):
        """The tuple is a best ORDER and CASES that show what it costs, and no more."""
        told = whole_best(works, wishes, question)
        self.assertIs(told.__class__, tuple)
        order, cases = told
        self.same(is_order(works, wishes, order), True)
        cost = cost_told(works, order, question)
        self.same(cost, min(cost_told(works, each, question) for each in orders_of(len(works), wishes)))
        self.same(lets_cases(works, wishes, question, cost, cases), True)
        with self.assertRaises(NoPaper):
            lets_cases(works, wishes, question, cost + 1, cases)
        return cost

    def test_told(self):
        works = ((3, 0, ("late", 9)), (1, 2, ("late", 3)))
        self.same(self.shows(works, (), "greatest"), 0)
        self.same(self.shows(works, (), "sum"), -5)
        self.same(self.shows(works, ((1, 0),), "greatest"), 0)
        self.same(self.shows(works, ((0, 1),), "greatest"), 1)
        self.same(whole_best(works, ((0, 1),), "greatest")[0], (0, 1))
        for question in QUESTIONS:
            self.same(self.shows(works[:1], (), question), -6)

    def test_waiting_for_one_that_comes_soon(self):
        works = ((9, 0, ("ends", 0)), (1, 1, ("tardy", 2, 9)))
        self.same(whole_best(works, (), "sum")[0], (1, 0))
        self.same(self.shows(works, (), "sum"), 0)
        self.same(self.shows(works, (), "greatest"), 0)

    def test_all_wishes_of_three_works(self):
        for wishes in wishes_of(3):
            for costs in itertools.permutations(TIGHT, 3):
                for comings in ((0, 0, 0), (2, 0, 1), (0, 3, 0)):
                    for question in QUESTIONS:
                        self.shows(tuple(zip((1, 2, 1), comings, costs)), wishes, question)

    def test_five_works_at_the_greatest_bounds(self):
        for seed in range(80):
            drawn = Drawn(seed, coming=(60, 20)[seed // 4 % 2], most=(400, 120)[seed % 2])
            self.shows(drawn.works(5, alike=seed % 10 == 9), drawn.wishes(5), QUESTIONS[seed // 2 % 2])
        for question in QUESTIONS:
            for cost in COSTS + (("tardy", -99, 9), ("late", 400), ("steps", tuple((60 + 9 * k, 9 * k) for k in range(5)))):
                self.shows(tuple((20, 60, cost) for k in range(5)), (), question)
                self.shows(tuple((20 - k, 15 * k, cost) for k in range(5)), ((4, 0), (4, 1)), question)

    def test_works_numbered_otherwise(self):
        works = ((3, 1, ("late", 6)), (2, 9, ("tardy", 4, 2)), (1, 0, ("miss", 5, 9)), (2, 2, ("ends", 1)))
        for question in QUESTIONS:
            for wishes in (((0, 2), (1, 2)), ((3, 0),), ()):
                cost = self.shows(works, wishes, question)
                for row in itertools.permutations(range(4)):
                    others, turned = renamed(works, wishes, row)
                    self.same(self.shows(others, turned, question), cost)

    def test_more_than_five_are_refused(self):
        for question in QUESTIONS:
            for many in (6, 7, 8):
                for comings in ((0,) * 8, tuple(range(8))):
                    works = tuple((2, comings[k], COSTS[k % 5]) for k in range(many))
                    self.refused(TooMany, {"word": "works"}, whole_best, works, (), question)
                    self.refused(TooMany, {"word": "works"}, whole_best, works, ((0, 1),), question)


if __name__ == "__main__":
    unittest.main()
