"""Points 21 and 22: what follows over orders, plans and their costs, over small works gone through whole."""

import itertools
import unittest

from benchdays.asking import costs_of, worth
from benchdays.costs import moved_cost
from benchdays.orders import is_order, run
from benchdays.plans import by_ends, ends_of, is_plan
from benchdays.works import with_coming
from tests.helper import COSTS, ENDS, LATE, MISS, STEPS, TARDY, Case, day_plans, joined_up, wishes_of

QUESTIONS = ("greatest", "sum")
MOVABLE = (LATE, TARDY, MISS, STEPS)


def moved_works(works, days):
    return tuple((length, coming + days, cost) for length, coming, cost in works)


def moved_plan(plan, days):
    return tuple((work, begin + days, end + days) for work, begin, end in plan)


class OrderOfEnds(Case):

    def test_it_is_an_order_for_each_wishes_of_the_plan(self):
        works = ((2, 0, LATE), (1, 2, MISS), (2, 1, ENDS))
        for wishes in wishes_of(3):
            for plan in day_plans(works, wishes, 7):
                self.same(is_order(works, wishes, by_ends(works, joined_up(plan))), True)

    def test_where_all_come_alike_its_run_ends_none_later(self):
        for lengths in itertools.product((1, 2), repeat=3):
            bare = tuple((length, 1, LATE) for length in lengths)
            for plan in day_plans(bare, (), 7):
                self.no_later(bare, plan)

    def no_later(self, bare, plan):
        ends = ends_of(bare, plan)
        new = ends_of(bare, run(bare, by_ends(bare, plan)))
        for one, other in zip(new, ends):
            self.assertLessEqual(one, other)
        for costs in (COSTS[:3], COSTS[2:], (STEPS, LATE, ENDS)):
            works = tuple((length, coming, cost) for (length, coming, old), cost in zip(bare, costs))
            for question in QUESTIONS:
                self.assertLessEqual(worth(works, new, question), worth(works, ends, question))


class AllMoved(Case):

    def test_runs_are_moved(self):
        for comings in itertools.product((0, 1, 4), repeat=3):
            works = tuple((length, coming, cost) for length, coming, cost in zip((1, 3, 2), comings, MOVABLE))
            for days in range(-min(comings), 6):
                later = moved_works(works, days)
                for order in itertools.permutations(range(3)):
                    self.same(run(later, order), moved_plan(run(works, order), days))

    def test_plans_are_moved(self):
        pieces = [(j, begin, end) for j in (0, 1) for begin in range(5) for end in range(begin + 1, 6)]
        for comings in itertools.product((0, 1, 2), repeat=2):
            works = ((1, comings[0], LATE), (2, comings[1], MISS))
            for wishes in wishes_of(2):
                for plan in itertools.product(pieces, repeat=2):
                    was = is_plan(works, wishes, plan)
                    for days in (-min(comings), 3, 60):
                        self.same(is_plan(moved_works(works, days), wishes, moved_plan(plan, days)), was)

    def test_moved_costs_cost_the_same(self):
        for costs in itertools.product(MOVABLE, repeat=2):
            works = ((1, 2, costs[0]), (2, 3, costs[1]))
            for plan in day_plans(works, (), 7):
                for days in (-2, 0, 1, 50):
                    later = tuple((length, coming + days, moved_cost(cost, days)) for length, coming, cost in works)
                    then, now = ends_of(works, plan), ends_of(later, moved_plan(plan, days))
                    self.same(costs_of(later, now), costs_of(works, then))
                    for question in QUESTIONS:
                        self.same(worth(later, now, question), worth(works, then, question))

    def test_told_works_are_handed_in_again(self):
        works = with_coming(((2, 0, moved_cost(LATE, 999)), (1, 0, moved_cost(STEPS, -999))), 0, 5)
        self.same(run(works, (0, 1)), ((0, 5, 7), (1, 7, 8)))
        self.same(costs_of(works, ends_of(works, run(works, (0, 1)))), (-997, 8))


if __name__ == "__main__":
    unittest.main()
