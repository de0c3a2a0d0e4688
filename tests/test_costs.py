"""Points 11 and 12: COSTS."""

import unittest

from benchdays.costs import cost_at, is_cost, later_due, moved_cost
from benchdays.errors import NoRule
from tests.helper import COSTS, ENDS, HUGE, LATE, MISS, STEPS, TARDY, Case

ALL_DAYS = (-999, -7, -1, 0, 1, 6, 999)


class IsCost(Case):

    def test_right_ones(self):
        more = [("late", -99), ("late", HUGE), ("tardy", -HUGE, 0), ("tardy", 0, HUGE), ("miss", 0, 0), ("ends", 0)]
        more += [("ends", HUGE), ("steps", ((0, 0),)), ("steps", ((-HUGE, 3), (HUGE, HUGE))), ("steps", ((0, 5), (1, 5)))]
        more += [("steps", tuple((k, k // 2) for k in range(1500)))]
        for cost in list(COSTS) + more:
            self.same(is_cost(cost), True)

    def test_wrong_ones(self):
        wrong = [("late",), ("late", 1, 1), ("late", True), ("late", "1"), ("late", None), ["late", 1], ("Late", 1)]
        wrong += [("tardy", 1), ("tardy", 1, -1), ("tardy", True, 1), ("tardy", 1, True), ("tardy", 1, 1, 1)]
        wrong += [("miss", 1), ("miss", 1, -1), ("miss", False, 1), ("miss", 1, False), ("miss", 1, 1, 1)]
        wrong += [("ends", -1), ("ends", True), ("ends", 1, 1), ("ends",), ("ends", (1,)), ("soon", 1), (), "late", 5]
        wrong += [("steps", ()), ("steps",), ("steps", [(0, 1)]), ("steps", ((0, 1),), 1), ("steps", (0, 1))]
        wrong += [("steps", ((1, 1), (0, 2))), ("steps", ((0, 1), (0, 1))), ("steps", ((0, 2), (1, 1)))]
        wrong += [("steps", ((0, -1),)), ("steps", ((True, 1),)), ("steps", ((0, True),)), ("steps", ((0, 1, 2),))]
        wrong += [("steps", ((0, 1), (2, 1), (1, 1)))]
        for thing in wrong:
            self.same(is_cost(thing), False)

    def test_any_thing(self):
        self.tells_of_any_thing(is_cost)
        for cost in COSTS:
            self.no_spoiled(is_cost, cost)


class CostAt(Case):

    def told(self, cost, rows):
        for t, wanted in rows:
            self.same(cost_at(cost, t), wanted)

    def test_late(self):
        self.told(LATE, [(-2999, -3004), (4, -1), (5, 0), (6, 1), (2999, 2994)])
        self.told(("late", -3), [(-4, -1), (-3, 0), (0, 3)])

    def test_tardy(self):
        self.told(TARDY, [(-2999, 0), (4, 0), (5, 0), (6, 3), (8, 9), (2999, 8982)])
        self.told(("tardy", -3, 2), [(-4, 0), (-3, 0), (-2, 2), (0, 6)])
        self.told(("tardy", 5, 0), [(4, 0), (6, 0)])

    def test_miss(self):
        self.told(MISS, [(-2999, 0), (4, 0), (5, 0), (6, 4), (8, 4), (2999, 4)])
        self.told(("miss", -3, 2), [(-4, 0), (-3, 0), (-2, 2), (0, 2)])
        self.told(("miss", 5, 0), [(4, 0), (6, 0)])

    def test_ends(self):
        self.told(ENDS, [(-2999, -5998), (-1, -2), (0, 0), (1, 2), (2999, 5998)])
        self.told(("ends", 0), [(-2999, 0), (2999, 0)])

    def test_steps(self):
        self.told(STEPS, [(-2999, 0), (-2, 0), (-1, 0), (0, 0), (3, 0), (4, 7), (5, 7), (6, 7), (8, 7), (9, 8), (2999, 8)])
        self.told(("steps", ((3, 2),)), [(2, 0), (3, 2), (4, 2)])
        self.told(("steps", ((-99, 5), (-98, 99))), [(-100, 0), (-99, 5), (-98, 99), (-97, 99)])

    def test_a_cost_never_falls(self):
        for cost in COSTS:
            told = [cost_at(cost, t) for t in range(-2999, 3000)]
            self.assertEqual(told, sorted(told))


class Moving(Case):

    def test_later_due(self):
        self.same(later_due(LATE, 3), ("late", 8))
        self.same(later_due(LATE, -7), ("late", -2))
        self.same(later_due(TARDY, 3), ("tardy", 8, 3))
        self.same(later_due(TARDY, -7), ("tardy", -2, 3))
        self.same(later_due(MISS, 999), ("miss", 1004, 4))
        self.same(later_due(MISS, -999), ("miss", -994, 4))
        for cost in (LATE, TARDY, MISS):
            self.same(later_due(cost, 0), cost)

    def test_no_due(self):
        for cost in (ENDS, ("ends", 0), STEPS, ("steps", ((0, 0),))):
            for days in ALL_DAYS:
                self.refused(NoRule, {"word": "due"}, later_due, cost, days)

    def test_moved_cost(self):
        self.same(moved_cost(LATE, -7), ("late", -2))
        self.same(moved_cost(TARDY, 3), ("tardy", 8, 3))
        self.same(moved_cost(MISS, 3), ("miss", 8, 4))
        self.same(moved_cost(STEPS, 3), ("steps", ((2, 0), (7, 7), (9, 7), (12, 8))))
        self.same(moved_cost(STEPS, -7), ("steps", ((-8, 0), (-3, 7), (-1, 7), (2, 8))))
        for cost in (LATE, TARDY, MISS, STEPS):
            self.same(moved_cost(cost, 0), cost)

    def test_moved_cost_tells_later_what_it_told(self):
        for cost in (LATE, TARDY, MISS, STEPS):
            for days in ALL_DAYS:
                moved = moved_cost(cost, days)
                self.same(is_cost(moved), True)
                for t in range(-20, 30):
                    self.same(cost_at(moved, t + days), cost_at(cost, t))

    def test_ends_are_not_moved(self):
        for cost in (ENDS, ("ends", 0)):
            for days in ALL_DAYS:
                self.refused(NoRule, {"word": "ends"}, moved_cost, cost, days)


if __name__ == "__main__":
    unittest.main()
