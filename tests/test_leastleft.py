"""Points 47, 48 and 51: how many works are done by a moment, and how early in one PLAN."""

import itertools
import unittest

from benchdays.asking import worth
from benchdays.endchecker import lets_ends
from benchdays.errors import NoRule
from benchdays.latechecker import lets_table
from benchdays.lateorder import late_order, put_out
from benchdays.latetable import in_time, table_of
from benchdays.leastleft import done_by, ends_paper, left_plan, turned
from benchdays.plans import by_ends, ends_of, is_plan
from benchdays.works import is_works
from tests.helper import COSTS, ENDS, Case, Drawn, day_plans, in_time_told, sets_of, table_place_told, table_shape_told

LENGTHS = ((1, 2, 1), (2, 2, 1), (3, 1, 1))
COMINGS = ((0, 0, 0), (2, 0, 1), (0, 1, 3), (1, 1, 3))


def ended_by(works, some, t):
    """Whether a SET can be ENDED BY t: from each coming on there is time enough for all that come then or later."""
    return all(works[first][1] + sum(works[j][0] for j in some if works[j][1] >= works[first][1]) <= t for first in some)


def most_done(works, t):
    return max(len(some) for some in sets_of(len(works)) if ended_by(works, some, t))


def small_works(cost):
    for lengths, comings in itertools.product(LENGTHS, COMINGS):
        yield tuple((length, coming, cost) for length, coming in zip(lengths, comings))


def end_works(drawn, many):
    cost = ("ends", drawn.up_to(9))
    return tuple((length, coming, cost) for length, coming, other in drawn.works(many))


class Turned(Case):

    def test_told(self):
        works = tuple((k + 1, 3 * k, cost) for k, cost in enumerate(COSTS))
        self.same(turned(works, 7), ((1, 0, ("miss", 7, 1)), (2, 0, ("miss", 4, 1)), (3, 0, ("miss", 1, 1)),
                                     (4, 0, ("miss", -2, 1)), (5, 0, ("miss", -5, 1))))
        self.same(turned(works[:1], -999), ((1, 0, ("miss", -999, 1)),))
        self.same(turned(((20, 60, ENDS),) * 8, 999), ((20, 0, ("miss", 939, 1)),) * 8)
        self.same(is_works(turned(works, -999)), True)

    def test_a_set_is_ended_by_t_just_where_it_can_be_in_time(self):
        for works in small_works(ENDS):
            plans = {ends_of(works, plan) for plan in day_plans(works, (), 8)}
            for t in range(-1, 9):
                for some in sets_of(3):
                    can = any(all(ends[j] <= t for j in some) for ends in plans)
                    self.assertEqual(in_time_told(turned(works, t), some), can)
                    self.assertEqual(ended_by(works, some, t), can)

    def test_turned_works_are_handed_in_again(self):
        works = turned(((3, 4, ENDS), (2, 0, ENDS), (1, 2, ENDS)), 6)
        self.same(put_out(works), ((1, 2), (0,)))
        self.same(in_time(works, 2), (1, 2))
        self.same(table_of(works)[-1], (0, 1, 3, None))
        self.same(lets_table(works, late_order(works)[1]), 1)
        self.same(turned(works, 5), ((3, 0, ("miss", 5, 1)), (2, 0, ("miss", 5, 1)), (1, 0, ("miss", 5, 1))))
        self.same(done_by(works, 5), 2)


class DoneBy(Case):

    def test_told(self):
        works = ((3, 4, COSTS[0]), (2, 0, COSTS[1]), (1, 2, COSTS[4]))
        self.same([done_by(works, t) for t in range(-1, 9)], [0, 0, 0, 1, 2, 2, 2, 2, 3, 3])
        self.same(done_by(works, -999), 0)
        self.same(done_by(works, 999), 3)
        self.same([done_by(((2, 60, ENDS),), t) for t in (61, 62)], [0, 1])

    def test_the_most_of_all_plans(self):
        for works in small_works(ENDS):
            plans = {ends_of(works, plan) for plan in day_plans(works, (), 8)}
            for t in range(-2, 9):
                self.same(done_by(works, t), max(sum(end <= t for end in ends) for ends in plans))

    def test_eight_works_at_the_greatest_bounds(self):
        for seed in range(12):
            works = Drawn(seed, coming=(60, 20)[seed % 2]).works(8)
            for t in [-999, -1, 999] + list(range(0, 220, 9)):
                self.same(done_by(works, t), most_done(works, t))


class LeftPlan(Case):

    def right(self, works):
        """It is a PLAN, and at each moment as many works are done as can be."""
        plan = left_plan(works)
        self.same(is_plan(works, (), plan), True)
        ends = ends_of(works, plan)
        for t in range(-1, max(ends) + 2):
            self.assertEqual(sum(end <= t for end in ends), done_by(works, t))
        return ends

    def test_told(self):
        works = ((5, 0, ("ends", 2)), (2, 2, ("ends", 2)), (1, 20, ("ends", 2)))
        self.same(left_plan(works), ((0, 0, 2), (1, 2, 4), (0, 4, 7), (2, 20, 21)))
        self.same(left_plan(((3, 4, ("ends", 0)),)), ((0, 4, 7),))
        works = ((5, 0, ("ends", 2)), (4, 2, ("ends", 2)))
        self.same(left_plan(works), ((0, 0, 5), (1, 5, 9)))
        self.same(by_ends(works, left_plan(works)), (0, 1))

    def test_it_ends_each_as_early_as_any_plan(self):
        for works in small_works(("ends", 3)):
            ends = self.right(works)
            for others in {ends_of(works, plan) for plan in day_plans(works, (), 8)}:
                for one, other in zip(sorted(ends), sorted(others)):
                    self.assertLessEqual(one, other)
                self.assertLessEqual(worth(works, ends, "sum"), worth(works, others, "sum"))

    def test_eight_works_at_the_greatest_bounds(self):
        for seed in range(60):
            self.right(end_works(Drawn(seed, coming=(60, 20)[seed % 2]), 8))
        self.right(tuple((20, 60, ("ends", 9)) for k in range(8)))


class EndsPaper(Case):

    def right(self, works):
        """It is an ENDS PAPER, and shows what the PLAN costs."""
        paper = ends_paper(works)
        self.assertEqual((paper.__class__, len(paper)), (tuple, len(works)))
        for k, entry in enumerate(paper):
            self.assertEqual((entry.__class__, entry[0].__class__), (tuple, int))
            moment, table = entry
            self.assertIsNone(table_shape_told(turned(works, moment - 1), table))
            self.assertIsNone(table_place_told(turned(works, moment - 1), table))
            self.assertEqual(table[-1][k + 1:], (None,) * (len(works) - k))
        cost = worth(works, ends_of(works, left_plan(works)), "sum")
        self.same(works[0][2][1] * sum(moment for moment, table in paper), cost)
        self.same(lets_ends(works, paper), cost)

    def test_one_work(self):
        works = ((3, 4, ("ends", 2)),)
        self.right(works)
        self.same(lets_ends(works, ends_paper(works)), 14)

    def test_small_ones(self):
        for weight in (0, 1, 3):
            for works in small_works(("ends", weight)):
                self.right(works)

    def test_eight_works_at_the_greatest_bounds(self):
        for seed in range(30):
            self.right(end_works(Drawn(seed, coming=(60, 20)[seed % 2]), 8))
        self.right(tuple((20, 60, ("ends", 9)) for k in range(8)))

    def test_refused(self):
        for action in (left_plan, ends_paper):
            for cost in COSTS:
                if cost != ENDS:
                    self.refused(NoRule, {"word": "ends"}, action, ((2, 0, cost),))
                    self.refused(NoRule, {"word": "ends"}, action, ((2, 0, ENDS), (1, 3, cost)))
                    self.refused(NoRule, {"word": "ends"}, action, ((2, 0, ("ends", 1)), (1, 3, ENDS), (1, 3, cost)))
            self.refused(NoRule, {"word": "weights"}, action, ((2, 0, ENDS), (1, 3, ENDS), (1, 3, ("ends", 1))))
            self.refused(NoRule, {"word": "weights"}, action, ((2, 0, ("ends", 0)), (1, 0, ENDS)))


if __name__ == "__main__":
    unittest.main()
