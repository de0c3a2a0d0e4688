"""Points 79 to 81: the BEST, and what a day more or less makes of it."""

import itertools
import unittest

from benchdays.asking import worth
from benchdays.breaking import greatest_plan
from benchdays.days import best_worth, coming_worth, due_worth, length_worth
from benchdays.errors import NoRule, TooMany
from benchdays.plans import ends_of, is_plan
from benchdays.setchecker import bound_of
from benchdays.works import with_coming
from tests.helper import COSTS, ENDS, LATE, QUESTIONS, STEPS, Case, Drawn, cost_told, day_plans, orders_of, wishes_of

WORKS = ((3, 1, ("late", 6)), (2, 9, ("tardy", 4, 2)), (1, 0, ("miss", 5, 9)), (2, 2, ("ends", 1)))
ACTIONS = (due_worth, length_worth, coming_worth)
# What can be asked: by "broken" there is no sum.
ASKED = (("greatest", "whole"), ("sum", "whole"), ("greatest", "broken"))


def whole_told(works, wishes, question):
    return min(cost_told(works, order, question) for order in orders_of(len(works), wishes))


def broken_told(works, wishes):
    """The least that a PLAN costs by "greatest": that of a PLAN which a SET shows to be best."""
    plan, some = greatest_plan(works, wishes)
    cost = worth(works, ends_of(works, plan), "greatest")
    assert is_plan(works, wishes, plan) and cost == bound_of(works, wishes, some)
    return cost


def best_told(works, wishes, question, way):
    return whole_told(works, wishes, question) if way == "whole" else broken_told(works, wishes)


def changed(action, works, j, d):
    """The WORKS of which number d is the BEST."""
    length, coming, cost = works[j]
    if action == length_worth:
        work = (length - d if length - d > 1 else 1, coming, cost)
    elif action == coming_worth:
        work = (length, coming - d if coming - d > 0 else 0, cost)
    else:
        work = (length, coming, (cost[0], cost[1] + d) + cost[2:])
    return works[:j] + (work,) + works[j + 1:]


class BestWorth(Case):

    def test_told(self):
        works = ((5, 0, ("late", 7)), (2, 2, ("late", 3)))
        self.same(best_worth(works, (), "greatest", "whole"), 2)
        self.same(best_worth(works, (), "greatest", "broken"), 1)
        self.same(best_worth(works, (), "sum", "whole"), 2)
        self.same(best_worth(works, ((0, 1),), "greatest", "broken"), 4)
        self.same(best_worth(works, ((1, 0),), "sum", "whole"), 3)
        self.same(best_worth(works[:1], (), "sum", "whole"), -2)

    def test_all_wishes_of_three_works(self):
        for comings in ((0, 0, 0), (2, 0, 1), (0, 3, 0)):
            for wishes in wishes_of(3):
                plans = day_plans(tuple((length, coming, LATE) for length, coming in zip((1, 2, 1), comings)), wishes, 7)
                for costs in itertools.permutations(COSTS, 3):
                    works = tuple(zip((1, 2, 1), comings, costs))
                    for question in QUESTIONS:
                        self.same(best_worth(works, wishes, question, "whole"), whole_told(works, wishes, question))
                    least = min(worth(works, ends, "greatest") for ends in {ends_of(works, plan) for plan in plans})
                    self.same(best_worth(works, wishes, "greatest", "broken"), least)

    def test_at_the_greatest_bounds(self):
        for seed in range(12):
            drawn = Drawn(seed, most=(400, 150)[seed % 2])
            for many, alike in ((5, False), (7, True)):
                works, wishes = drawn.works(many, alike=alike), drawn.wishes(many)
                question = QUESTIONS[seed // 2 % 2]
                self.same(best_worth(works, wishes, question, "whole"), whole_told(works, wishes, question))
        for seed in range(100):
            drawn = Drawn(seed, most=(400, 150)[seed % 2])
            works, wishes = drawn.works(8, alike=seed % 3 == 0), drawn.wishes(8)
            self.same(best_worth(works, wishes, "greatest", "broken"), broken_told(works, wishes))

    def test_refused(self):
        for cost in COSTS:
            for question in QUESTIONS:
                for works in (((2, 0, cost),) * 8, ((2, 0, cost),) * 7 + ((2, 1, ENDS),), ((2, 0, cost),) * 5 + ((2, 1, cost),)):
                    self.refused(TooMany, {"word": "works"}, best_worth, works, ((0, 1),), question, "whole")
            for many in (1, 5, 8):
                for coming in (0, 1):
                    works = ((2, 0, cost),) * (many - 1) + ((2, coming, cost),)
                    self.refused(NoRule, {"word": "sum"}, best_worth, works, (), "sum", "broken")
                    best_worth(works, (), "greatest", "broken")
            best_worth(((2, 0, cost),) * 4 + ((2, 1, cost),), (), "sum", "whole")
            best_worth(((2, 1, cost),) * 7, (), "sum", "whole")


class DayMore(Case):

    def rows_told(self, works, wishes, j, k):
        """All rows of these works are what the document tells, and none ever rises."""
        for action in ACTIONS:
            if action == due_worth and works[j][2][0] in ("ends", "steps"):
                continue
            for question, way in ASKED:
                wanted = tuple(best_told(changed(action, works, j, d), wishes, question, way) for d in range(k + 1))
                told = action(works, wishes, question, way, j, k)
                self.same(told, wanted)
                self.assertEqual(sorted(told, reverse=True), list(told))

    def test_told(self):
        works = ((3, 2, ("late", 4)), (2, 0, ("ends", 1)))
        self.same(due_worth(works, (), "greatest", "whole", 0, 3), (2, 2, 2, 2))
        self.same(due_worth(works, (), "sum", "whole", 0, 3), (3, 2, 1, 0))
        self.same(length_worth(works, (), "sum", "whole", 0, 3), (3, 2, 1, 1))
        self.same(coming_worth(works, (), "sum", "whole", 0, 3), (3, 3, 3, 3))
        self.same(length_worth(works, (), "sum", "whole", 1, 2), (3, 2, 2))
        self.same(coming_worth(works[:1], (), "greatest", "broken", 0, 4), (1, 0, -1, -1, -1))
        for action in ACTIONS:
            self.same(action(works, (), "sum", "whole", 0, 0), (3,))

    def test_all_works_of_four(self):
        for wishes in wishes_of(4)[::40]:
            for j in range(4):
                self.rows_told(WORKS, wishes, j, 4)

    def test_five_works_that_come_unlike_at_the_greatest_bounds(self):
        for seed in range(12):
            drawn = Drawn(seed, coming=(60, 12)[seed % 2], most=(400, 120)[seed % 2])
            self.rows_told(drawn.works(5), drawn.wishes(5), drawn.up_to(4), 12)

    def test_seven_works_that_come_alike_at_the_greatest_bounds(self):
        for seed in range(3):
            drawn = Drawn(seed, most=200)
            works, wishes = drawn.works(7, ("late", "tardy", "miss"), alike=True), drawn.wishes(7, 9)
            j = drawn.up_to(6)
            for action in (due_worth, length_worth):
                told = action(works, wishes, QUESTIONS[seed % 2], "whole", j, 12)
                self.same(len(told), 13)
                for d in (0, 1, 12):
                    self.same(told[d], whole_told(changed(action, works, j, d), wishes, QUESTIONS[seed % 2]))

    def test_eight_works_broken_off(self):
        for seed in range(30):
            drawn = Drawn(seed, most=150)
            works, wishes, j = drawn.works(8, ("late", "tardy", "miss")), drawn.wishes(8), drawn.up_to(7)
            for action in ACTIONS:
                wanted = tuple(broken_told(changed(action, works, j, d), wishes) for d in range(13))
                self.same(action(works, wishes, "greatest", "broken", j, 12), wanted)

    def test_works_stay_as_they_were(self):
        kept = repr(WORKS)
        for action in ACTIONS:
            action(WORKS, (), "sum", "whole", 0, 3)
        self.same(repr(WORKS), kept)


class Refused(Case):

    def test_as_the_best_is(self):
        for action, k, cost, question in itertools.product(ACTIONS, (0, 12), COSTS, QUESTIONS):
            for works in (((2, 0, cost),) * 8, ((2, 0, cost),) * 5 + ((2, 1, cost),), ((2, 1, cost),) * 7 + ((2, 0, cost),)):
                self.refused(TooMany, {"word": "works"}, action, works, (), question, "whole", 0, k)
            self.refused(NoRule, {"word": "sum"}, action, ((2, 0, cost),) * 8, (), "sum", "broken", 0, k)

    def test_as_the_best_of_those_so_made_is(self):
        for many, question in itertools.product((6, 7), QUESTIONS):
            works = tuple((2, 3, LATE) for j in range(many))
            self.same(len(coming_worth(works, (), question, "whole", 1, 0)), 1)
            for k in (1, 3, 12):
                self.refused(TooMany, {"word": "works"}, coming_worth, works, (), question, "whole", 1, k)
            # Whoever comes on day 0 can't come sooner, so nothing becomes unlike.
            works = tuple((2, 0, LATE) for j in range(many))
            self.same(len(coming_worth(works, (), question, "whole", 1, 12)), 13)
            # Six that would come alike with a day less come unlike as they are handed in.
            works = with_coming(works, 1, 1)
            self.refused(TooMany, {"word": "works"}, coming_worth, works, (), question, "whole", 1, 1)
        works = tuple((2, 3, LATE) for j in range(8))
        self.same(len(coming_worth(works, (), "greatest", "broken", 1, 12)), 13)

    def test_no_due(self):
        for cost in (ENDS, STEPS):
            for k in (0, 1, 12):
                for question, way in ASKED:
                    self.refused(NoRule, {"word": "due"}, due_worth, ((2, 0, LATE), (2, 1, cost)), (), question, way, 1, k)
                    self.same(len(due_worth(((2, 0, LATE), (2, 1, cost)), (), question, way, 0, k)), k + 1)
                self.refused(NoRule, {"word": "sum"}, due_worth, ((2, 0, cost),), (), "sum", "broken", 0, k)
                self.refused(TooMany, {"word": "works"}, due_worth, ((2, 0, cost),) * 8, (), "sum", "whole", 0, k)
                self.refused(NoRule, {"word": "due"}, due_worth, ((2, 0, cost),) * 8, (), "greatest", "broken", 0, k)


class WhatFollows(Case):

    def test_late_falls_by_one_at_most(self):
        for seed in range(30):
            drawn = Drawn(seed, length=6, coming=9, least=0, most=25)
            works, wishes, j = drawn.works(5, ("late",)), drawn.wishes(5, 5), drawn.up_to(4)
            for way in ("whole", "broken"):
                for action in ACTIONS:
                    told = action(works, wishes, "greatest", way, j, 6)
                    self.assertTrue(all(one - other in (0, 1) for one, other in zip(told, told[1:])), told)
                others = tuple((length, coming, (word, due + 1)) for length, coming, (word, due) in works)
                self.same(best_worth(others, wishes, "greatest", way), best_worth(works, wishes, "greatest", way) - 1)


if __name__ == "__main__":
    unittest.main()
