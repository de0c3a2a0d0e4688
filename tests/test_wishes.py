"""Points 14 to 17: WISHES."""

import itertools
import unittest

from benchdays.wishes import ahead, behind, is_closed, is_forest, is_wishes, last_ones, ring
from tests.helper import HUGE, Case, goes_round, leads, sets_of, wishes_of

CHAIN = ((0, 1), (1, 2), (2, 3))
MIXED = ((0, 2), (1, 2), (2, 4), (3, 4), (4, 6), (5, 0))
ROUND = ((0, 1), (1, 2), (2, 0))


def pairs_of(many):
    pairs = sorted(itertools.permutations(range(many), 2))
    return [row for size in range(len(pairs) + 1) for row in itertools.combinations(pairs, size)]


class IsWishes(Case):

    def test_right_ones(self):
        self.same(is_wishes(1, ()), True)
        self.same(is_wishes(4, CHAIN), True)
        self.same(is_wishes(7, MIXED), True)
        self.same(is_wishes(2, ((1, 0),)), True)
        self.same(is_wishes(8, tuple(itertools.combinations(range(8), 2))), True)
        self.same(is_wishes(19, tuple(itertools.combinations(range(19), 2))), True)

    def test_wrong_ones(self):
        wrong = [[], [(0, 1)], ([0, 1],), ((0, 0),), ((0, 4),), ((4, 0),), ((-1, 0),), ((0, -1),), ((0, 1), (0, 1))]
        wrong += [((1, 2), (0, 1)), ((0, 2), (0, 1)), ((0, True),), ((False, 1),), ((0, 1, 2),), ((0,),), (0, 1), 0]
        wrong += [((0, HUGE),), ((HUGE, 0),), ((-HUGE, 0),), ((0, 1), None), ((0, 1), (1, 0)), ROUND, None, "0<1"]
        wrong += [((0, 1), (1, 2), (2, 1), (2, 3)), ((0, 1), (1, 2), (2, 3), (3, 0))]
        for thing in wrong:
            self.same(is_wishes(4, thing), False)
        self.same(is_wishes(3, CHAIN), False)
        self.same(is_wishes(1, ((0, 1),)), False)

    def test_all_of_three_works(self):
        for pairs in pairs_of(3):
            self.same(is_wishes(3, pairs), not goes_round(3, pairs))

    def test_any_thing(self):
        for many in (1, 2, 8, 19):
            self.tells_of_any_thing(lambda thing: is_wishes(many, thing))
        self.no_spoiled(lambda thing: is_wishes(4, thing), CHAIN)


class Ring(Case):

    def is_ring(self, pairs, told):
        self.assertIsInstance(told, tuple)
        self.assertGreaterEqual(len(told), 2)
        self.assertEqual(len(set(told)), len(told))
        for one, other in zip(told, told[1:] + told[:1]):
            self.assertIn((one, other), pairs)

    def test_none(self):
        for pairs in [(), CHAIN, MIXED, tuple(itertools.combinations(range(6), 2)), ((0, 2), (0, 3), (1, 2), (1, 3))]:
            self.same(ring(8, pairs), None)

    def test_round(self):
        self.assertIn(ring(2, ((0, 1), (1, 0))), [(0, 1), (1, 0)])
        self.assertIn(ring(3, ROUND), [(0, 1, 2), (1, 2, 0), (2, 0, 1)])

    def test_a_part_goes_round(self):
        self.assertIn(ring(8, ((0, 1), (1, 2), (2, 3), (3, 2), (3, 7), (6, 0))), [(2, 3), (3, 2)])
        self.assertIn(ring(8, ((0, 1), (4, 5), (5, 6), (6, 4))), [(4, 5, 6), (5, 6, 4), (6, 4, 5)])
        self.assertIn(ring(5, ((0, 4), (1, 0), (1, 3), (2, 1), (3, 2), (3, 4))), [(1, 3, 2), (3, 2, 1), (2, 1, 3)])
        two = ((0, 1), (1, 0), (2, 3), (3, 2))
        self.is_ring(two, ring(4, two))

    def test_all_of_four_works(self):
        for pairs in pairs_of(4):
            told = ring(4, pairs)
            self.assertEqual(told is None, not goes_round(4, pairs))
            self.assertEqual(told is None, is_wishes(4, pairs))
            if told is not None:
                self.is_ring(pairs, told)

    def test_twenty_pairs(self):
        pairs = tuple(sorted([(k, k + 1) for k in range(7)] + [(7, 0)] + [(k, k + 2) for k in range(6)]
                             + [(k, k + 3) for k in range(5)] + [(3, 0)]))
        self.assertEqual(len(pairs), 20)
        self.is_ring(pairs, ring(8, pairs))


class BehindAndAhead(Case):

    def test_told(self):
        self.same(behind(4, CHAIN, 0), (1, 2, 3))
        self.same(behind(4, CHAIN, 3), ())
        self.same(ahead(4, CHAIN, 3), (0, 1, 2))
        self.same(ahead(4, CHAIN, 0), ())
        self.same(behind(7, MIXED, 5), (0, 2, 4, 6))
        self.same(behind(7, MIXED, 1), (2, 4, 6))
        self.same(ahead(7, MIXED, 4), (0, 1, 2, 3, 5))
        self.same(ahead(7, MIXED, 5), ())
        self.same(behind(1, (), 0), ())
        self.same(ahead(1, (), 0), ())

    def test_all_of_four_works(self):
        for wishes in wishes_of(4):
            for a in range(4):
                self.same(behind(4, wishes, a), tuple(b for b in range(4) if leads(wishes, a, b)))
                self.same(ahead(4, wishes, a), tuple(b for b in range(4) if leads(wishes, b, a)))

    def test_what_follows(self):
        for wishes in wishes_of(4):
            sets = [behind(4, wishes, a) for a in range(4)]
            for a in range(4):
                self.assertNotIn(a, sets[a])
                for b in range(4):
                    self.assertEqual(b in sets[a], a in ahead(4, wishes, b))
                for b in sets[a]:
                    self.assertLessEqual(set(sets[b]), set(sets[a]))


class LastOnes(Case):

    def test_through_works_outside(self):
        self.same(last_ones(4, CHAIN, (0, 3)), (3,))
        self.same(last_ones(4, CHAIN, (0, 1, 2)), (2,))
        self.same(last_ones(7, MIXED, (1, 3, 5)), (1, 3, 5))
        self.same(last_ones(7, MIXED, (1, 3, 5, 6)), (6,))
        self.same(last_ones(7, MIXED, (0, 1, 3, 5)), (0, 1, 3))
        self.same(last_ones(7, MIXED, ()), ())
        self.same(last_ones(3, (), (0, 1, 2)), (0, 1, 2))

    def test_closed_through_works_outside(self):
        self.same(is_closed(4, CHAIN, ()), True)
        self.same(is_closed(4, CHAIN, (0,)), True)
        self.same(is_closed(4, CHAIN, (0, 1)), True)
        self.same(is_closed(4, CHAIN, (1,)), False)
        self.same(is_closed(4, CHAIN, (0, 2)), False)
        self.same(is_closed(4, CHAIN, (0, 1, 3)), False)
        self.same(is_closed(7, MIXED, (0, 1, 2)), False)
        self.same(is_closed(7, MIXED, (0, 1, 2, 5)), True)

    def test_all_sets_of_four_works(self):
        for wishes in wishes_of(4):
            for some in sets_of(4):
                last = tuple(u for u in some if not any(leads(wishes, u, v) for v in some))
                self.same(last_ones(4, wishes, some), last)
                closed = all(a in some for u in some for a in range(4) if leads(wishes, a, u))
                self.same(is_closed(4, wishes, some), closed)
                self.assertEqual(bool(last), bool(some))
                if closed:
                    for u in last:
                        self.same(is_closed(4, wishes, tuple(v for v in some if v != u)), True)

    def test_told_sets_are_handed_in_again(self):
        self.same(last_ones(7, MIXED, ahead(7, MIXED, 4)), (2, 3))
        self.same(is_closed(7, MIXED, ahead(7, MIXED, 4)), True)
        self.same(is_closed(7, MIXED, behind(7, MIXED, 2)), False)
        self.same(last_ones(7, MIXED, last_ones(7, MIXED, (0, 1, 3))), (0, 1, 3))


class IsForest(Case):

    def test_told(self):
        self.same(is_forest(3, ()), True)
        self.same(is_forest(4, CHAIN), True)
        self.same(is_forest(4, ((0, 1), (0, 2), (0, 3))), True)
        self.same(is_forest(4, ((0, 1), (2, 3))), True)
        self.same(is_forest(3, ((0, 2), (1, 2))), False)
        self.same(is_forest(7, MIXED), False)

    def test_all_of_four_works(self):
        for wishes in wishes_of(4):
            seconds = [b for a, b in wishes]
            self.same(is_forest(4, wishes), all(seconds.count(b) < 2 for b in range(4)))


if __name__ == "__main__":
    unittest.main()
