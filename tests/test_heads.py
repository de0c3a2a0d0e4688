"""Point 25: HEADS, and HEADS RAISED."""

import itertools
import unittest

from benchdays.heads import heads, raised
from benchdays.wishes import ahead, last_ones
from tests.helper import ENDS, LATE, Case, day_plans, sets_of, wishes_of

WORKS = ((3, 2, LATE), (2, 0, ENDS), (4, 9, LATE), (1, 0, ENDS))
CHAIN = ((0, 1), (1, 3), (2, 3))
BACKWARDS = ((1, 0), (2, 1), (3, 2))


def head_told(works, wishes, some, t, j):
    """The HEAD of work j, as the document tells it, by itself."""
    before = [head_told(works, wishes, some, t, a) + works[a][0] for a, b in wishes if b == j and a in some]
    return max([works[j][1], t] + before)


class Heads(Case):

    def test_without_wishes(self):
        self.same(heads(WORKS, ()), (2, 0, 9, 0))
        self.same(heads(WORKS[:1], ()), (2,))

    def test_chains_and_several_firsts(self):
        self.same(heads(WORKS, CHAIN), (2, 5, 9, 13))
        self.same(heads(WORKS, ((0, 1), (1, 3))), (2, 5, 9, 7))
        self.same(heads(WORKS, ((0, 3), (1, 3))), (2, 0, 9, 5))
        self.same(heads(WORKS, BACKWARDS), (15, 13, 9, 0))
        self.same(heads(WORKS, ((0, 2), (1, 2), (3, 2))), (2, 0, 9, 0))

    def test_a_long_chain_against_the_numbers(self):
        works = tuple((20, 60, LATE) for k in range(8))
        self.same(heads(works, tuple((k, k - 1) for k in range(1, 8))), (200, 180, 160, 140, 120, 100, 80, 60))
        self.same(heads(works, tuple((k, k + 1) for k in range(7))), (60, 80, 100, 120, 140, 160, 180, 200))

    def test_all_wishes_of_four_works(self):
        for wishes in wishes_of(4):
            wanted = tuple(head_told(WORKS, wishes, range(4), 0, j) for j in range(4))
            self.same(heads(WORKS, wishes), wanted)

    def test_no_plan_goes_below(self):
        for comings in itertools.product((0, 2), repeat=3):
            works = tuple((length, coming, LATE) for length, coming in zip((1, 2, 1), comings))
            for wishes in wishes_of(3):
                told = heads(works, wishes)
                for plan in day_plans(works, wishes, 6):
                    for j, begin, end in plan:
                        self.assertGreaterEqual(begin, told[j])


class Raised(Case):

    def test_without_one_that_is_ahead(self):
        self.same(raised(WORKS, CHAIN, (0, 1, 2, 3), 0), (2, 5, 9, 13))
        self.same(raised(WORKS, CHAIN, (1, 2, 3), 0), (0, 9, 13))
        self.same(raised(WORKS, CHAIN, (1, 3), 0), (0, 2))
        self.same(raised(WORKS, CHAIN, (3,), 0), (0,))
        self.same(raised(WORKS, CHAIN, (0, 3), 0), (2, 0))
        self.same(raised(WORKS, BACKWARDS, (0, 2), 0), (2, 9))
        self.same(raised(WORKS, BACKWARDS, (0, 1, 3), 0), (2, 0, 0))

    def test_of_none(self):
        for t in (-99, 0, 999):
            self.same(raised(WORKS, CHAIN, (), t), ())

    def test_t_below_and_above_the_comings(self):
        self.same(raised(WORKS, CHAIN, (0, 1, 2, 3), -99), (2, 5, 9, 13))
        self.same(raised(WORKS, CHAIN, (1, 3), -99), (0, 2))
        self.same(raised(WORKS, CHAIN, (0, 1, 2, 3), 4), (4, 7, 9, 13))
        self.same(raised(WORKS, CHAIN, (0, 1, 2, 3), 9), (9, 12, 9, 14))
        self.same(raised(WORKS, CHAIN, (0, 1, 2, 3), 999), (999, 1002, 999, 1004))
        self.same(raised(WORKS, (), (2,), 10), (10,))

    def test_all_sets_and_wishes_of_four_works(self):
        for wishes in wishes_of(4):
            for some in sets_of(4):
                for t in (-1, 1, 4, 12):
                    wanted = tuple(head_told(WORKS, wishes, some, t, j) for j in some)
                    self.same(raised(WORKS, wishes, some, t), wanted)

    def test_told_sets_are_handed_in_again(self):
        self.same(raised(WORKS, CHAIN, ahead(4, CHAIN, 3), 0), (2, 5, 9))
        self.same(raised(WORKS, CHAIN, last_ones(4, CHAIN, (0, 1, 2)), 6), (6, 9))


if __name__ == "__main__":
    unittest.main()
