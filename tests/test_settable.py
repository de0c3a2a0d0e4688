"""Points 70 and 71: the SET TABLE whose NUMBERS are not less than they have to be."""

import itertools
import unittest

from benchdays.errors import NoRule, TooMany
from benchdays.settable import set_table
from tests.helper import COSTS, ENDS, QUESTIONS, Case, Drawn, cost_told, leads, sets_of, wishes_of

TIGHT = (("late", 3), ("tardy", 2, 3), ("miss", 3, 4), ("ends", 1), ("steps", ((1, 0), (3, 2), (4, 5))))
WORKS = ((3, 1, ("late", 6)), (2, 1, ("tardy", 4, 2)), (1, 1, ("miss", 5, 9)), (2, 1, ("ends", 1)))


def table_told(works, wishes, question):
    """For each SET the least that an order of its works alone costs, as the document tells it."""
    table = [None] * 2 ** len(works)
    for some in sets_of(len(works)):
        if all(a in some for a in range(len(works)) for b in some if leads(wishes, a, b)):
            orders = [row for row in itertools.permutations(some)
                      if all(row.index(a) < row.index(b) for a, b in itertools.permutations(some, 2) if leads(wishes, a, b))]
            costs = [cost_told(works, order, question) for order in orders if order]
            table[sum(2 ** k for k in some)] = min(costs) if some else 0 if question == "sum" else None
    return tuple(table)


class SetTable(Case):

    def test_told(self):
        works = ((2, 1, ("late", 4)), (3, 1, ("late", 2)))
        self.same(set_table(works, (), "sum"), (0, -1, 2, 3))
        self.same(set_table(works, (), "greatest"), (None, -1, 2, 2))
        self.same(set_table(works, ((0, 1),), "sum"), (0, -1, None, 3))
        self.same(set_table(works, ((0, 1),), "greatest"), (None, -1, None, 4))
        self.same(set_table(works, ((1, 0),), "sum"), (0, None, 2, 4))
        self.same(set_table(works[:1], (), "sum"), (0, -1))
        self.same(set_table(works[:1], (), "greatest"), (None, -1))

    def test_all_wishes_of_three_works(self):
        for wishes in wishes_of(3):
            for costs in itertools.permutations(TIGHT, 3):
                works = tuple(zip((1, 2, 1), (1, 1, 1), costs))
                for question in QUESTIONS:
                    self.same(set_table(works, wishes, question), table_told(works, wishes, question))

    def test_all_wishes_of_four_works(self):
        for wishes in wishes_of(4)[::3]:
            for question in QUESTIONS:
                self.same(set_table(WORKS, wishes, question), table_told(WORKS, wishes, question))

    def test_seven_works_at_the_greatest_bounds(self):
        for seed in range(6):
            drawn = Drawn(seed, most=(400, 150)[seed % 2])
            works = drawn.works(7, alike=True)
            wishes = drawn.wishes(7) if seed else ()
            question = QUESTIONS[seed // 2 % 2]
            self.same(set_table(works, wishes, question), table_told(works, wishes, question))
        most = tuple((20, 60, ("tardy", -99, 9)) for k in range(7))
        chain = tuple((k, k + 1) for k in range(6))
        self.same(set_table(most, chain, "greatest")[-1], 9 * 299)
        self.same(set_table(most, chain, "sum")[-1], sum(9 * (179 + 20 * k) for k in range(7)))
        self.same(sum(entry is not None for entry in set_table(most, chain, "sum")), 8)

    def test_refused(self):
        for question in QUESTIONS:
            for cost in COSTS:
                self.refused(TooMany, {"word": "works"}, set_table, ((2, 0, cost),) * 8, (), question)
                self.refused(TooMany, {"word": "works"}, set_table, ((2, 0, cost),) * 7 + ((2, 1, ENDS),), ((0, 1),), question)
                self.refused(NoRule, {"word": "coming"}, set_table, ((2, 0, cost),) * 6 + ((2, 1, ENDS),), (), question)
                self.refused(NoRule, {"word": "coming"}, set_table, ((2, 0, cost), (2, 1, cost)), ((0, 1),), question)


if __name__ == "__main__":
    unittest.main()
