"""Point 20: what ENDS cost."""

import itertools
import unittest

from benchdays.asking import costs_of, worth
from benchdays.orders import run
from benchdays.plans import ends_of
from tests.helper import COSTS, ENDS, LATE, MISS, STEPS, TARDY, Case

WORKS = tuple((2, 0, cost) for cost in COSTS)


class Asking(Case):

    def test_all_five_kinds(self):
        self.same(costs_of(WORKS, (7, 7, 7, 7, 7)), (2, 6, 4, 14, 7))
        self.same(worth(WORKS, (7, 7, 7, 7, 7), "greatest"), 14)
        self.same(worth(WORKS, (7, 7, 7, 7, 7), "sum"), 33)
        self.same(costs_of(WORKS, (99, 8, 6, 0, 3)), (94, 9, 4, 0, 0))
        self.same(worth(WORKS, (99, 8, 6, 0, 3), "greatest"), 94)
        self.same(worth(WORKS, (99, 8, 6, 0, 3), "sum"), 107)

    def test_ends_below_nought(self):
        self.same(costs_of(WORKS, (-1, -1, -1, -1, -1)), (-6, 0, 0, -2, 0))
        self.same(worth(WORKS, (-1, -1, -1, -1, -1), "greatest"), 0)
        self.same(worth(WORKS, (-1, -1, -1, -1, -1), "sum"), -8)
        self.same(costs_of(WORKS, (-999, -999, -999, -999, -2)), (-1004, 0, 0, -1998, 0))

    def test_all_below_nought(self):
        works = ((1, 0, LATE), (2, 0, ("late", 9)), (3, 0, ENDS))
        self.same(costs_of(works, (2, 4, -3)), (-3, -5, -6))
        self.same(worth(works, (2, 4, -3), "greatest"), -3)
        self.same(worth(works, (2, 4, -3), "sum"), -14)
        self.same(worth(works[:1], (2,), "greatest"), -3)
        self.same(worth(works[:1], (2,), "sum"), -3)

    def test_each_work_by_its_own_end(self):
        works = ((1, 0, MISS), (1, 0, TARDY), (1, 0, STEPS))
        wanted = {0: (0, 0, 0), 4: (0, 0, 7), 5: (0, 0, 7), 6: (4, 3, 7), 9: (4, 12, 8)}
        for ends in itertools.product(wanted, repeat=3):
            costs = tuple(wanted[end][j] for j, end in enumerate(ends))
            self.same(costs_of(works, ends), costs)
            self.same(worth(works, ends, "greatest"), max(costs))
            self.same(worth(works, ends, "sum"), sum(costs))

    def test_ends_of_a_run(self):
        ends = ends_of(WORKS, run(WORKS, (4, 3, 2, 1, 0)))
        self.same(costs_of(WORKS, ends), (5, 9, 4, 8, 0))
        self.same(worth(WORKS, ends, "sum"), 26)


if __name__ == "__main__":
    unittest.main()
