"""Point 28: STRETCHES."""

import unittest

from benchdays.blocks import stretches, stretches_of
from benchdays.heads import heads
from benchdays.wishes import behind, last_ones
from tests.helper import ENDS, LATE, MISS, Case, Drawn, sets_of, wishes_of

WORKS = ((3, 2, LATE), (2, 0, ENDS), (4, 9, LATE), (1, 0, MISS))
CHAIN = ((0, 1), (1, 3), (2, 3))


def stretches_told(works, wishes, some):
    """STRETCHES by the days at which the bench has something to do, in the order told."""
    begins = heads(works, wishes)
    row = sorted((begins[j], j) for j in some)
    told = []
    while row:
        size = 1
        while size < len(row) and row[size][0] < row[0][0] + sum(works[j][0] for head, j in row[:size]):
            size += 1
        members = [j for head, j in row[:size]]
        told.append((row[0][0], row[0][0] + sum(works[j][0] for j in members), tuple(sorted(members))))
        row = row[size:]
    return told


class Stretches(Case):

    def test_without_wishes(self):
        self.same(stretches(WORKS, ()), [(0, 6, (0, 1, 3)), (9, 13, (2,))])
        self.same(stretches(WORKS[:1], ()), [(2, 5, (0,))])
        self.same(stretches(WORKS[:3], ()), [(0, 2, (1,)), (2, 5, (0,)), (9, 13, (2,))])

    def test_by_heads_with_wishes(self):
        self.same(stretches(WORKS, CHAIN), [(2, 5, (0,)), (5, 7, (1,)), (9, 13, (2,)), (13, 14, (3,))])
        self.same(stretches(WORKS, ((0, 3),)), [(0, 2, (1,)), (2, 5, (0,)), (5, 6, (3,)), (9, 13, (2,))])
        self.same(stretches(WORKS, ((1, 3),)), [(0, 2, (1,)), (2, 6, (0, 3)), (9, 13, (2,))])

    def test_a_head_just_at_the_end_begins_the_next_one(self):
        self.same(stretches(((3, 0, LATE), (2, 3, LATE)), ()), [(0, 3, (0,)), (3, 5, (1,))])
        self.same(stretches(((3, 0, LATE), (2, 2, LATE)), ()), [(0, 5, (0, 1))])
        self.same(stretches(((3, 0, LATE), (2, 4, LATE)), ()), [(0, 3, (0,)), (4, 6, (1,))])

    def test_all_at_once_and_at_the_greatest_bounds(self):
        alike = tuple((20, 60, LATE) for k in range(8))
        self.same(stretches(alike, ()), [(60, 220, tuple(range(8)))])
        chain = tuple((k, k - 1) for k in range(1, 8))
        self.same(stretches(alike, chain), [(60 + 20 * k, 80 + 20 * k, (7 - k,)) for k in range(8)])

    def test_of_a_set_by_heads_of_all_works(self):
        self.same(stretches_of(WORKS, CHAIN, (3,)), [(13, 14, (3,))])
        self.same(stretches_of(WORKS, CHAIN, (1, 3)), [(5, 7, (1,)), (13, 14, (3,))])
        self.same(stretches_of(WORKS, (), (1, 3)), [(0, 3, (1, 3))])
        self.same(stretches_of(WORKS, (), (0, 3)), [(0, 1, (3,)), (2, 5, (0,))])

    def test_of_none(self):
        self.same(stretches_of(WORKS, CHAIN, ()), [])
        self.same(stretches_of(WORKS, (), ()), [])

    def test_all_sets_and_wishes_of_four_works(self):
        for wishes in wishes_of(4):
            self.same(stretches(WORKS, wishes), stretches_told(WORKS, wishes, range(4)))
            for some in sets_of(4):
                self.same(stretches_of(WORKS, wishes, some), stretches_told(WORKS, wishes, some))

    def test_eight_works(self):
        for seed in range(200):
            drawn = Drawn(seed, coming=60 if seed % 2 else 9)
            works, wishes = drawn.works(8), drawn.wishes(8)
            self.same(stretches(works, wishes), stretches_told(works, wishes, range(8)))
            for some in sets_of(8)[::17]:
                self.same(stretches_of(works, wishes, some), stretches_told(works, wishes, some))

    def test_told_anew_at_each_call(self):
        first = stretches(WORKS, ())
        first.append("more")
        del first[0]
        self.same(stretches(WORKS, ()), [(0, 6, (0, 1, 3)), (9, 13, (2,))])
        none = stretches_of(WORKS, (), ())
        none.append("more")
        self.same(stretches_of(WORKS, (), ()), [])

    def test_told_sets_are_handed_in_again(self):
        for begin, end, some in stretches(WORKS, ()):
            self.same(stretches_of(WORKS, (), some), [(begin, end, some)])
            self.same(stretches_of(WORKS, (), last_ones(4, (), some)), [(begin, end, some)])
        self.same(stretches_of(WORKS, CHAIN, behind(4, CHAIN, 0)), [(5, 7, (1,)), (13, 14, (3,))])


if __name__ == "__main__":
    unittest.main()
