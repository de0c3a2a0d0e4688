"""Points 29 and 30: best PLANS by "greatest", and the PLAN by dues."""

import itertools
import unittest

from benchdays.asking import worth
from benchdays.breaking import due_plan, greatest_plan
from benchdays.errors import NoRule
from benchdays.heads import heads, raised
from benchdays.plans import by_ends, ends_of, is_plan
from benchdays.setchecker import bound_of, lets_set
from benchdays.wishes import is_closed, last_ones
from benchdays.works import with_coming
from tests.helper import COSTS, Case, Drawn, day_plans, renamed, sets_of, wishes_of

TIGHT = (("late", 3), ("tardy", 2, 3), ("miss", 3, 4), ("ends", 1), ("steps", ((1, 0), (3, 2), (4, 5))))
LENGTHS = (1, 2, 1)
COMINGS = ((0, 0, 0), (2, 0, 1), (0, 3, 0), (1, 1, 3))


def cost_of(works, plan):
    return worth(works, ends_of(works, plan), "greatest")


def least_of(works, plans):
    return min(worth(works, ends, "greatest") for ends in {ends_of(works, plan) for plan in plans})


def turned_due(works, wishes, j):
    """The TURNED DUE of one work, as the document tells it, by itself."""
    return min([works[j][2][1]] + [turned_due(works, wishes, b) - works[b][0] for a, b in wishes if a == j])


def due_plan_told(works, wishes):
    """The PLAN by dues, day by day."""
    begins = heads(works, wishes)
    dues = [turned_due(works, wishes, j) for j in range(len(works))]
    left = [work[0] for work in works]
    days = []
    for t in range(1000):
        ready = [(dues[j], j) for j in range(len(works)) if left[j] and begins[j] <= t]
        if ready:
            left[min(ready)[1]] -= 1
            days.append((t, min(ready)[1]))
    pieces = []
    for t, j in days:
        if pieces and pieces[-1][0] == j and pieces[-1][2] == t:
            pieces[-1] = (j, pieces[-1][1], t + 1)
        else:
            pieces.append((j, t, t + 1))
    return tuple(pieces)


class GreatestPlan(Case):

    def shows(self, works, wishes):
        """The tuple is a PLAN and a SET, and the PLAN costs what the SET shows."""
        told = greatest_plan(works, wishes)
        self.assertIs(told.__class__, tuple)
        plan, some = told
        self.same(is_plan(works, wishes, plan), True)
        self.assertIn(some, sets_of(len(works))[1:])
        self.same(cost_of(works, plan), bound_of(works, wishes, some))
        self.same(lets_set(works, wishes, cost_of(works, plan), some), True)
        return cost_of(works, plan)

    def test_one_work(self):
        self.same(greatest_plan(((3, 2, ("late", 4)),), ()), (((0, 2, 5),), (0,)))
        for cost in COSTS:
            self.same(greatest_plan(((3, 2, cost),), ()), (((0, 2, 5),), (0,)))

    def test_a_work_is_broken_off(self):
        works = ((5, 0, ("late", 9)), (2, 2, ("late", 3)))
        plan, some = greatest_plan(works, ())
        self.same(plan, ((0, 0, 2), (1, 2, 4), (0, 4, 7)))
        self.same(some, (1,))
        works = ((9, 0, ("ends", 0)), (2, 2, ("ends", 1)), (1, 6, ("miss", 7, 9)))
        plan, some = greatest_plan(works, ())
        self.same(plan, ((0, 0, 2), (1, 2, 4), (0, 4, 6), (2, 6, 7), (0, 7, 12)))
        self.same(some, (1,))

    def test_wishes_hold_within_a_stretch(self):
        works = ((2, 0, ("late", 9)), (2, 0, ("late", 1)), (1, 0, ("late", 3)))
        self.same(self.shows(works, ()), 1)
        self.same(self.shows(works, ((0, 1),)), 3)
        self.same(self.shows(works, ((0, 1), (2, 0))), 4)

    def test_what_it_costs_is_the_least_of_all_plans(self):
        for comings in COMINGS:
            bare = tuple((length, coming, TIGHT[0]) for length, coming in zip(LENGTHS, comings))
            for wishes in wishes_of(3):
                plans = day_plans(bare, wishes, 7)
                for costs in itertools.product(TIGHT, repeat=3):
                    works = tuple(zip(LENGTHS, comings, costs))
                    self.same(self.shows(works, wishes), least_of(works, plans))

    def test_longer_works_broken_off_are_the_least_of_all_plans(self):
        comings = (0, 1, 3)
        plans = day_plans(tuple((length, coming, TIGHT[0]) for length, coming in zip((3, 1, 1), comings)), (), 7)
        for costs in itertools.product(TIGHT, repeat=3):
            works = tuple(zip((3, 1, 1), comings, costs))
            self.same(self.shows(works, ()), least_of(works, plans))

    def test_all_wishes_of_four_works(self):
        works = ((3, 0, ("late", 6)), (2, 1, ("tardy", 4, 2)), (1, 3, ("miss", 5, 9)), (2, 2, ("ends", 1)))
        for wishes in wishes_of(4):
            self.shows(works, wishes)

    def test_eight_works_at_the_greatest_bounds(self):
        for seed in range(300):
            drawn = Drawn(seed, coming=(60, 30, 9)[seed % 3], most=(400, 99)[seed % 2])
            self.shows(drawn.works(8), drawn.wishes(8))
        most = tuple((20, 60, ("steps", ((-99, 0), (0, 1), (100, 98), (200, 99), (400, 99)))) for k in range(8))
        self.same(self.shows(most, tuple((k, 7) for k in range(7))), 99)

    def test_nothing_hangs_on_what_was_asked_before(self):
        works = Drawn(7).works(8)
        wishes = Drawn(7).wishes(8)
        cost = self.shows(works, wishes)
        self.shows(with_coming(works, 0, 0), ())
        self.same(self.shows(works, wishes), cost)

    def test_told_plans_and_sets_are_handed_in_again(self):
        works = ((5, 0, ("late", 9)), (2, 2, ("late", 3)))
        plan, some = greatest_plan(works, ())
        self.same(by_ends(works, plan), (1, 0))
        self.same(raised(works, (), some, 0), (2,))
        self.same(last_ones(2, (), some), (1,))
        self.same(is_closed(2, ((0, 1),), some), False)

    def test_works_numbered_otherwise(self):
        works = ((3, 0, ("late", 6)), (2, 1, ("tardy", 4, 2)), (1, 3, ("miss", 5, 9)), (2, 2, ("ends", 1)))
        for wishes in (((0, 2), (1, 2)), ((3, 0),), ()):
            cost = self.shows(works, wishes)
            for row in itertools.permutations(range(4)):
                others, turned = renamed(works, wishes, row)
                self.same(self.shows(others, turned), cost)
                for some in sets_of(4)[1:]:
                    same = tuple(sorted(row[j] for j in some))
                    self.same(bound_of(others, turned, same), bound_of(works, wishes, some))


class DuePlan(Case):

    def test_broken_off_by_dues(self):
        works = ((5, 0, ("late", 9)), (2, 2, ("late", 3)), (1, 20, ("late", -99)))
        self.same(due_plan(works, ()), ((0, 0, 2), (1, 2, 4), (0, 4, 7), (2, 20, 21)))
        self.same(due_plan(works, ((0, 1),)), ((0, 0, 5), (1, 5, 7), (2, 20, 21)))
        self.same(due_plan(((3, 4, ("late", 0)),), ()), ((0, 4, 7),))

    def test_of_like_dues_the_least_number(self):
        works = tuple((2, coming, ("late", 5)) for coming in (1, 0, 0))
        self.same(due_plan(works, ()), ((1, 0, 1), (0, 1, 3), (1, 3, 4), (2, 4, 6)))
        works = tuple((2, coming, ("late", 5)) for coming in (0, 1, 0))
        self.same(due_plan(works, ()), ((0, 0, 2), (1, 2, 4), (2, 4, 6)))

    def test_a_piece_goes_on_where_another_work_comes(self):
        works = ((9, 0, ("late", 1)), (2, 3, ("late", 3)), (1, 5, ("late", 2)))
        self.same(due_plan(works, ()), ((0, 0, 9), (2, 9, 10), (1, 10, 12)))

    def test_a_due_is_turned_by_those_behind(self):
        works = ((2, 0, ("late", 99)), (2, 0, ("late", 7)), (3, 0, ("late", 8)))
        self.same(due_plan(works, ()), ((1, 0, 2), (2, 2, 5), (0, 5, 7)))
        self.same(due_plan(works, ((0, 2),)), ((0, 0, 2), (1, 2, 4), (2, 4, 7)))

    def test_day_by_day(self):
        for wishes in wishes_of(4):
            works = ((3, 0, ("late", 6)), (2, 1, ("late", 4)), (1, 3, ("late", 5)), (2, 2, ("late", 4)))
            self.same(due_plan(works, wishes), due_plan_told(works, wishes))
        for seed in range(60):
            drawn = Drawn(seed, coming=(60, 20)[seed % 2], most=(400, 40)[seed % 2])
            works, wishes = drawn.works(8, ("late",)), drawn.wishes(8)
            self.same(due_plan(works, wishes), due_plan_told(works, wishes))

    def test_it_costs_the_least(self):
        for seed in range(200):
            drawn = Drawn(seed, coming=(60, 20)[seed % 2], most=(400, 40)[seed % 2])
            works, wishes = drawn.works(8, ("late",)), drawn.wishes(8)
            plan = due_plan(works, wishes)
            self.same(is_plan(works, wishes, plan), True)
            best, some = greatest_plan(works, wishes)
            self.same(cost_of(works, plan), cost_of(works, best))
        for dues in itertools.product((-1, 2, 5), repeat=3):
            works = tuple((length, coming, ("late", due)) for length, coming, due in zip(LENGTHS, (2, 0, 1), dues))
            for wishes in wishes_of(3):
                self.same(cost_of(works, due_plan(works, wishes)), least_of(works, day_plans(works, wishes, 7)))

    def test_works_numbered_otherwise(self):
        works = ((3, 0, ("late", 6)), (2, 1, ("late", 4)), (1, 3, ("late", 5)), (2, 2, ("late", 4)))
        for wishes in (((0, 2), (1, 2)), ((3, 0),), ()):
            for row in itertools.permutations(range(4)):
                others, turned = renamed(works, wishes, row)
                self.same(cost_of(others, due_plan(others, turned)), cost_of(works, due_plan(works, wishes)))

    def test_refused_where_some_cost_is_another_one(self):
        for cost in COSTS[1:]:
            for works in (((2, 0, cost),), ((2, 0, COSTS[0]), (1, 3, cost)), ((1, 3, cost), (2, 0, COSTS[0]))):
                self.refused(NoRule, {"word": "late"}, due_plan, works, ())
        self.refused(NoRule, {"word": "late"}, due_plan, ((2, 0, COSTS[0]), (1, 3, COSTS[3])), ((0, 1),))


if __name__ == "__main__":
    unittest.main()
