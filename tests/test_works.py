"""Point 13: WORKS."""

import unittest

from benchdays.costs import later_due, moved_cost
from benchdays.works import all_length, is_work, is_works, same_coming, with_coming, with_length
from tests.helper import COSTS, ENDS, HUGE, LATE, MISS, STEPS, Case

WORKS = ((3, 0, LATE), (1, 4, STEPS), (20, 60, ENDS))


class IsWorks(Case):

    def test_right_ones(self):
        for cost in COSTS:
            for length, coming in [(1, 0), (20, 60), (HUGE, HUGE)]:
                self.same(is_work((length, coming, cost)), True)
                self.same(is_works(((length, coming, cost),)), True)
        self.same(is_works(WORKS), True)
        self.same(is_works(WORKS * 6 + WORKS[:1]), True)
        self.same(is_works(WORKS[:1] * 700), True)

    def test_wrong_works(self):
        wrong = [(0, 0, LATE), (-1, 0, LATE), (1, -1, LATE), (True, 0, LATE), (1, True, LATE), (1, 0, ("late",))]
        wrong += [(1, 0), (1, 0, LATE, 1), [1, 0, LATE], (1, 0, ["late", 5]), (1, 0, None), ("1", 0, LATE), (), None]
        wrong += [(1, 0, ("ends", -1)), (-HUGE, 0, LATE), (1, -HUGE, LATE), WORKS]
        for thing in wrong:
            self.same(is_work(thing), False)
            self.same(is_works((thing,)), False)
            self.same(is_works(WORKS + (thing,)), False)
            self.same(is_works((thing,) + WORKS), False)
        for thing in [(), [], list(WORKS), WORKS[0], None, "", 3]:
            self.same(is_works(thing), False)

    def test_any_thing(self):
        self.tells_of_any_thing(is_work)
        self.tells_of_any_thing(is_works)
        for cost in COSTS:
            self.no_spoiled(is_work, (2, 3, cost))
        self.no_spoiled(is_works, ((2, 3, MISS), (1, 0, STEPS)))


class OfWorks(Case):

    def test_all_length(self):
        self.same(all_length(WORKS), 24)
        self.same(all_length(WORKS[1:2]), 1)
        self.same(all_length(((5, 9, LATE),) * 8), 40)

    def test_same_coming(self):
        self.same(same_coming(WORKS), None)
        self.same(same_coming(WORKS[2:]), 60)
        self.same(same_coming(((1, 0, LATE), (2, 0, ENDS))), 0)
        self.same(same_coming(((1, 7, LATE), (2, 7, ENDS), (2, 7, ENDS))), 7)
        self.same(same_coming(((1, 7, LATE), (2, 7, ENDS), (2, 8, ENDS))), None)
        self.same(same_coming(((1, 8, LATE), (2, 7, ENDS), (2, 7, ENDS))), None)
        self.same(same_coming(((1, 7, LATE), (2, 6, ENDS), (2, 7, ENDS))), None)

    def test_with_length(self):
        self.same(with_length(WORKS, 0, 5), ((5, 0, LATE), (1, 4, STEPS), (20, 60, ENDS)))
        self.same(with_length(WORKS, 1, 20), ((3, 0, LATE), (20, 4, STEPS), (20, 60, ENDS)))
        self.same(with_length(WORKS, 2, 1), ((3, 0, LATE), (1, 4, STEPS), (1, 60, ENDS)))
        self.same(with_length(WORKS[:1], 0, 3), WORKS[:1])

    def test_with_coming(self):
        self.same(with_coming(WORKS, 0, 5), ((3, 5, LATE), (1, 4, STEPS), (20, 60, ENDS)))
        self.same(with_coming(WORKS, 1, 0), ((3, 0, LATE), (1, 0, STEPS), (20, 60, ENDS)))
        self.same(with_coming(WORKS, 2, 1), ((3, 0, LATE), (1, 4, STEPS), (20, 1, ENDS)))
        self.same(with_coming(WORKS[2:], 0, 60), WORKS[2:])

    def test_what_was_handed_in_stays(self):
        kept = repr(WORKS)
        with_length(WORKS, 1, 9)
        with_coming(WORKS, 1, 9)
        all_length(WORKS)
        same_coming(WORKS)
        is_works(WORKS)
        self.assertEqual(repr(WORKS), kept)

    def test_told_costs_and_works_are_handed_in_again(self):
        works = ((2, 0, later_due(LATE, 999)), (3, 0, moved_cost(STEPS, -999)))
        for told in (with_length(works, 0, 20), with_coming(works, 1, 60), with_coming(with_length(works, 1, 7), 1, 0)):
            self.same(is_works(told), True)


if __name__ == "__main__":
    unittest.main()
