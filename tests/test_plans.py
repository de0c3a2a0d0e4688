"""Point 19: PLANS."""

import itertools
import unittest

from benchdays.orders import is_order, run
from benchdays.plans import by_ends, ends_of, is_plan
from tests.helper import ENDS, HUGE, LATE, MISS, STEPS, Case, day_plans, joined_up, wishes_of

WORKS = ((3, 0, LATE), (2, 4, STEPS), (1, 9, ENDS))
WISHES = ((0, 2), (1, 2))
BROKEN = ((0, 1, 3), (1, 4, 5), (0, 6, 7), (1, 7, 8), (2, 9, 10))


def is_plan_told(works, wishes, thing):
    """PLAN, clause by clause as the document tells it, of a tuple of tuples of three NUMBERS."""
    if not all(0 <= work < len(works) and begin < end for work, begin, end in thing):
        return False
    if not all(thing[k][1] >= thing[k - 1][2] for k in range(1, len(thing))):
        return False
    own = [[piece for piece in thing if piece[0] == j] for j in range(len(works))]
    if not all(sum(end - begin for j, begin, end in own[j]) == works[j][0] for j in range(len(works))):
        return False
    if not all(begin >= works[j][1] for j, begin, end in thing):
        return False
    return all(piece[1] >= own[a][-1][2] for a, b in wishes for piece in own[b])


class IsPlan(Case):

    def right(self, plan, wishes=WISHES, works=WORKS):
        self.same(is_plan(works, wishes, plan), True)

    def wrong(self, thing, wishes=WISHES, works=WORKS):
        self.same(is_plan(works, wishes, thing), False)

    def test_whole_and_broken_off(self):
        self.right(((0, 0, 3), (1, 4, 6), (2, 9, 10)))
        self.right(((1, 4, 6), (0, 6, 9), (2, 9, 10)))
        self.right(BROKEN)
        self.right(((0, 0, 1), (0, 5, 6), (1, 6, 7), (0, 7, 8), (1, 8, 9), (2, 9, 10)))

    def test_gaps(self):
        self.right(((0, 100, 101), (1, 200, 201), (1, 300, 301), (0, 400, 402), (2, 999, 1000)))
        self.right(((0, HUGE, HUGE + 3), (1, HUGE + 3, HUGE + 5), (2, HUGE + 5, HUGE + 6)))

    def test_pieces_of_one_work_behind_one_another(self):
        self.right(((0, 0, 1), (0, 1, 3), (1, 4, 5), (1, 5, 6), (2, 9, 10)))

    def test_many_pieces(self):
        works = ((20, 0, LATE), (20, 0, MISS))
        self.right(tuple((k % 2, k, k + 1) for k in range(40)), (), works)
        works = ((900, 0, LATE), (600, 0, MISS))
        plan = tuple((1 if k % 5 in (1, 3) else 0, k, k + 1) for k in range(1500))
        self.right(plan, (), works)
        self.wrong(plan[:-1], (), works)

    def test_other_numbers_than_those_of_pieces(self):
        self.wrong(BROKEN[:4] + ((3, 9, 10),))
        self.wrong(BROKEN[:4] + ((-1, 9, 10),))
        self.wrong(BROKEN + ((3, 10, 11),))
        self.wrong(((True, 4, 6), (0, 6, 9), (2, 9, 10)))
        self.wrong(((0, False, 3), (1, 4, 6), (2, 9, 10)))
        self.wrong(((0, 0, True),), (), ((1, 0, LATE),))
        self.wrong(((0, 0, 1, 1),), (), ((1, 0, LATE),))
        self.wrong(((0, 0),), (), ((1, 0, LATE),))
        self.wrong(([0, 0, 1],), (), ((1, 0, LATE),))
        self.wrong([(0, 0, 1)], (), ((1, 0, LATE),))
        self.right(((0, 0, 1),), (), ((1, 0, LATE),))

    def test_from_not_below_to(self):
        self.wrong(BROKEN[:1] + ((0, 3, 3),) + BROKEN[1:])
        self.wrong(((0, 0, 2), (0, 2, 4), (0, 5, 4), (1, 5, 7), (2, 9, 10)))

    def test_from_below_the_to_ahead(self):
        self.wrong(((0, 2, 5), (1, 4, 6), (2, 9, 10)))
        self.wrong(((1, 4, 6), (0, 0, 3), (2, 9, 10)))
        self.wrong(((0, 0, 2), (0, 1, 2), (1, 4, 6), (2, 9, 10)))

    def test_lengths(self):
        self.wrong(((0, 0, 2), (1, 4, 6), (2, 9, 10)))
        self.wrong(((0, 0, 4), (1, 4, 6), (2, 9, 10)))
        self.wrong(BROKEN[:4])
        self.wrong(BROKEN[1:])
        self.wrong(BROKEN + ((2, 10, 11),))
        self.wrong(())
        self.wrong((), (), ((1, 0, LATE),))

    def test_from_below_the_coming(self):
        self.wrong(((1, 3, 5), (0, 6, 9), (2, 9, 10)))
        self.wrong(((1, 3, 4), (0, 4, 7), (1, 7, 8), (2, 9, 10)))
        self.wrong(((0, 0, 3), (1, 4, 6), (2, 8, 9)))
        self.wrong(((0, -1, 2),), (), ((3, 0, LATE),))

    def test_wishes(self):
        self.wrong(((0, 0, 2), (1, 4, 6), (2, 9, 10), (0, 10, 11)))
        self.right(((0, 0, 2), (1, 4, 6), (2, 9, 10), (0, 10, 11)), ((1, 2),))
        self.wrong(((1, 4, 6), (2, 9, 10), (0, 10, 13)))
        self.wrong(BROKEN, ((0, 1),))
        self.wrong(BROKEN, ((1, 0),))
        self.right(((1, 4, 6), (0, 6, 9), (2, 9, 10)), ((0, 2), (1, 0)))

    def test_all_small_ones(self):
        pieces = list(itertools.product((0, 1, 2), range(-1, 4), range(-1, 5)))
        right = [piece for piece in pieces if piece[0] < 2 and 0 <= piece[1] < piece[2]]
        things = [row for size in range(3) for row in itertools.product(pieces, repeat=size)]
        things += list(itertools.product(right, repeat=3))
        for works in [((1, 0, LATE), (2, 0, MISS)), ((1, 1, LATE), (1, 0, MISS)), ((2, 0, LATE),)]:
            for wishes in wishes_of(len(works)):
                for thing in things:
                    self.assertIs(is_plan(works, wishes, thing), is_plan_told(works, wishes, thing), thing)

    def test_any_thing(self):
        self.tells_of_any_thing(lambda thing: is_plan(WORKS, WISHES, thing))
        self.tells_of_any_thing(lambda thing: is_plan(((2, 0, LATE),), (), thing))
        self.tells_of_any_thing(lambda thing: is_plan(((HUGE, 0, LATE), (1, HUGE, LATE)), (), thing))
        self.no_spoiled(lambda thing: is_plan(WORKS, WISHES, thing), BROKEN)
        self.right(((0, 0, HUGE),), (), ((HUGE, 0, LATE),))


class Ends(Case):

    def test_told(self):
        self.same(ends_of(WORKS, BROKEN), (7, 8, 10))
        self.same(by_ends(WORKS, BROKEN), (0, 1, 2))
        plan = ((0, 0, 2), (1, 4, 6), (2, 9, 10), (0, 11, 12))
        self.same(ends_of(WORKS, plan), (12, 6, 10))
        self.same(by_ends(WORKS, plan), (1, 2, 0))
        self.same(ends_of(WORKS[:1], ((0, 5, 6), (0, 6, 8))), (8,))
        self.same(by_ends(WORKS[:1], ((0, 5, 6), (0, 6, 8))), (0,))

    def test_ends_of_many_figures(self):
        plan = ((1, 9, 11), (2, 98, 99), (0, 100, 102), (0, 1000, 1001))
        self.same(ends_of(WORKS, plan), (1001, 11, 99))
        self.same(by_ends(WORKS, plan), (1, 2, 0))

    def test_of_runs(self):
        for order in itertools.permutations(range(3)):
            plan = run(WORKS, order)
            self.same(by_ends(WORKS, plan), order)
            self.same(is_order(WORKS, (), by_ends(WORKS, plan)), True)
            self.same(ends_of(WORKS, plan), tuple(dict((j, end) for j, begin, end in plan)[j] for j in range(3)))

    def test_of_all_small_plans(self):
        works = ((2, 0, LATE), (1, 1, MISS), (2, 0, ENDS))
        for plan in day_plans(works, (), 6):
            ends = [max(end for j, begin, end in plan if j == k) for k in range(3)]
            for same in (plan, joined_up(plan)):
                self.same(is_plan(works, (), same), True)
                self.same(ends_of(works, same), tuple(ends))
                self.same(by_ends(works, same), tuple(ends.index(end) for end in sorted(ends)))
            self.assertEqual(len(set(ends)), 3)


if __name__ == "__main__":
    unittest.main()
