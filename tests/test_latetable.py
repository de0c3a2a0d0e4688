"""Points 40, 41 and 44: the TRUE TABLE of LATE WORKS, and SETS that CAN BE IN TIME."""

import itertools
import unittest

from benchdays.errors import NoRule
from benchdays.latetable import in_time, table_of
from tests.helper import COSTS, MISS, Case, Drawn, day_plans, in_time_told, moments_of, sets_of, small_late_works

# BY DUES these are 1, 0, 2: of like dues the lesser number goes first.
WORKS = ((2, 1, ("miss", 4, 2)), (1, 1, ("miss", 3, 1)), (3, 1, ("miss", 4, 3)))


def table_told(works):
    """The TRUE TABLE, over all SETS, as the document tells it."""
    row = [j for due, j in sorted((work[2][1], j) for j, work in enumerate(works))]
    full = sum(work[2][2] for work in works)
    table = []
    for k in range(len(works) + 1):
        least = {}
        for some in itertools.chain.from_iterable(itertools.combinations(row[:k], size) for size in range(k + 1)):
            if in_time_told(works, some):
                weight, end = sum(works[j][2][2] for j in some), works[0][1] + sum(works[j][0] for j in some)
                least[weight] = min(end, least.get(weight, end))
        table.append(tuple(least.get(w) for w in range(full + 1)))
    return tuple(table)


class CanBeInTime(Case):

    def test_just_where_some_plan_has_them_in_time(self):
        for works in small_late_works():
            plans = [{j: moments_of(plan, j)[-1] + 1 for j in range(3)} for plan in day_plans(works, (), 7)]
            for some in sets_of(3):
                can = any(all(ends[j] <= works[j][2][1] for j in some) for ends in plans)
                self.assertEqual(in_time_told(works, some), can)


class TableOf(Case):

    def test_told(self):
        none = None
        self.same(table_of(WORKS), ((1, none, none, none, none, none, none), (1, 2, none, none, none, none, none),
                                    (1, 2, 3, 4, none, none, none), (1, 2, 3, 4, none, none, none)))
        self.same(table_of(WORKS[:1]), ((1, none, none), (1, none, 3)))

    def test_a_due_just_met_and_just_missed(self):
        self.same(table_of(((4, 3, ("miss", 7, 1)),)), ((3, None), (3, 7)))
        self.same(table_of(((4, 3, ("miss", 6, 1)),)), ((3, None), (3, None)))
        self.same(table_of(((4, 0, ("miss", -99, 1)),)), ((0, None), (0, None)))

    def test_weights_of_nought(self):
        self.same(table_of(((4, 3, ("miss", 9, 0)),)), ((3,), (3,)))
        self.same(table_of(((4, 3, ("miss", 9, 0)), (1, 3, ("miss", 4, 1)))), ((3, None), (3, 4), (3, 4)))

    def test_small_ones(self):
        for works in small_late_works():
            self.same(table_of(works), table_told(works))

    def test_eight_works_at_the_greatest_bounds(self):
        for seed in range(40):
            works = Drawn(seed, most=(400, 150)[seed % 2]).works(8, ("miss",), alike=True)
            self.same(table_of(works), table_told(works))
        works = tuple((20, 60, ("miss", 400, 9)) for k in range(8))
        table = table_of(works)
        self.same((len(table), len(table[0])), (9, 73))
        self.same(table[8][72], 220)
        self.same(table[7][72], None)

    def test_refused(self):
        for action in (table_of, lambda works: in_time(works, 0), lambda works: in_time(works, -999)):
            for cost in COSTS:
                self.refused(NoRule, {"word": "coming"}, action, ((2, 0, cost), (1, 1, cost)))
                self.refused(NoRule, {"word": "coming"}, action, ((2, 0, MISS), (1, 1, cost)))
                if cost != MISS:
                    self.refused(NoRule, {"word": "miss"}, action, ((2, 0, cost),))
                    self.refused(NoRule, {"word": "miss"}, action, ((2, 3, MISS), (1, 3, cost)))
                    self.refused(NoRule, {"word": "miss"}, action, ((1, 3, cost), (2, 3, MISS)))


class InTime(Case):

    def right(self, works, w):
        """The SET told is one of those that the document lets, or None where there is none."""
        full = [some for some in sets_of(len(works))
                if in_time_told(works, some) and sum(works[j][2][2] for j in some) == w]
        told = in_time(works, w)
        if not full:
            self.assertIsNone(told)
        else:
            least = min(sum(works[j][0] for j in some) for some in full)
            self.assertIn(repr(told), [repr(some) for some in full if sum(works[j][0] for j in some) == least])

    def test_told(self):
        self.same(in_time(WORKS, 0), ())
        self.same(in_time(WORKS, 1), (1,))
        self.same(in_time(WORKS, 2), (0,))
        self.assertIn(in_time(WORKS, 3), ((0, 1), (2,)))
        for w in (4, 5, 6, 7, 8, 999, -1, -2, -6, -7, -999):
            self.same(in_time(WORKS, w), None)

    def test_small_ones(self):
        for works in small_late_works():
            for w in range(-8, 9):
                self.right(works, w)

    def test_eight_works_at_the_greatest_bounds(self):
        for seed in range(6):
            works = Drawn(seed, most=(400, 150)[seed % 2]).works(8, ("miss",), alike=True)
            for w in [-999, -73, -72, -1, 999] + list(range(0, 75, 4)):
                self.right(works, w)
        works = tuple((20, 60, ("miss", 400, 9)) for k in range(8))
        self.same(in_time(works, 72), tuple(range(8)))
        self.same(in_time(works, 71), None)


if __name__ == "__main__":
    unittest.main()
