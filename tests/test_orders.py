"""Point 18: ORDERS and their RUNS."""

import itertools
import unittest

from benchdays.orders import is_order, run
from benchdays.plans import by_ends, is_plan
from tests.helper import ENDS, HUGE, LATE, MISS, STEPS, TARDY, Case, wishes_of

WORKS = ((3, 0, LATE), (2, 4, STEPS), (1, 9, ENDS), (5, 0, MISS))
ALIKE = ((3, 7, LATE), (2, 7, TARDY), (1, 7, ENDS))
WISHES = ((0, 2), (3, 2))


class IsOrder(Case):

    def test_right_ones(self):
        self.same(is_order(WORKS, (), (3, 1, 0, 2)), True)
        self.same(is_order(WORKS, WISHES, (3, 1, 0, 2)), True)
        self.same(is_order(WORKS, WISHES, (0, 3, 2, 1)), True)
        self.same(is_order(WORKS[:1], (), (0,)), True)

    def test_each_clause_broken_alone(self):
        wrong = [[3, 1, 0, 2], (3, 1, 0), (3, 1, 0, 2, 2), (3, 1, 0, 0), (3, 1, 0, 4), (4, 1, 3, 2), (-1, 0, 1, 2)]
        wrong += [(3, True, 0, 2), (3, 1, False, 2), (3, 1, 2, 0), (2, 3, 1, 0), (0, 1, 2, 3), (3, 1, 0, HUGE)]
        wrong += [(), None, 0, "3102", (3, 1, 0, "2"), (3, 1, 0, None), (3, 1, 0, (2,)), ((3, 1, 0, 2),), (3, 1, [0], 2)]
        for thing in wrong:
            self.same(is_order(WORKS, WISHES, thing), False)
        self.same(is_order(WORKS[:1], (), ()), False)
        self.same(is_order(WORKS[:1], (), (False,)), False)
        self.same(is_order(WORKS[:2], (), (0, True)), False)
        self.same(is_order(WORKS[:1], (), (0, 0)), False)

    def test_all_of_three_works(self):
        rows = [row for size in range(5) for row in itertools.product(range(-1, 4), repeat=size)]
        for wishes in wishes_of(3):
            for row in rows:
                right = sorted(row) == [0, 1, 2] and all(row.index(a) < row.index(b) for a, b in wishes)
                self.same(is_order(ALIKE, wishes, row), right)

    def test_any_thing(self):
        for many in (1, 2, 4):
            self.tells_of_any_thing(lambda thing: is_order(WORKS[:many], (), thing))
        self.tells_of_any_thing(lambda thing: is_order(WORKS, WISHES, thing))
        self.no_spoiled(lambda thing: is_order(WORKS, WISHES, thing), (3, 1, 0, 2))


class Run(Case):

    def test_the_bench_waits(self):
        self.same(run(WORKS, (0, 1, 2, 3)), ((0, 0, 3), (1, 4, 6), (2, 9, 10), (3, 10, 15)))
        self.same(run(WORKS, (2, 1, 0, 3)), ((2, 9, 10), (1, 10, 12), (0, 12, 15), (3, 15, 20)))
        self.same(run(WORKS, (3, 1, 0, 2)), ((3, 0, 5), (1, 5, 7), (0, 7, 10), (2, 10, 11)))
        self.same(run(WORKS[2:3], (0,)), ((0, 9, 10),))

    def test_comings_alike(self):
        self.same(run(ALIKE, (0, 1, 2)), ((0, 7, 10), (1, 10, 12), (2, 12, 13)))
        self.same(run(ALIKE, (2, 0, 1)), ((2, 7, 8), (0, 8, 11), (1, 11, 13)))

    def test_a_run_is_a_plan_and_no_work_could_begin_earlier(self):
        for order in itertools.permutations(range(4)):
            for wishes in (wish for wish in wishes_of(4) if is_order(WORKS, wish, order)):
                plan = run(WORKS, order)
                self.same(is_plan(WORKS, wishes, plan), True)
                self.same(by_ends(WORKS, plan), order)
            end = 0
            for work, begin, stop in plan:
                self.assertEqual((begin, stop - begin), (max(end, WORKS[work][1]), WORKS[work][0]))
                end = stop


if __name__ == "__main__":
    unittest.main()
