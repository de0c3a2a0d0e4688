"""Points 70 and 72: the checker of SET TABLES."""

import copy
import itertools
import unittest

from benchdays.errors import NoPaper, NoRule, TooMany
from benchdays.setjudge import lets_settable
from benchdays.settable import set_table
from tests.helper import (COSTS, ENDS, HUGE, QUESTIONS, Case, Drawn, any_things, cost_at_told, cost_told, last_ones_told,
                          leads, orders_of, spoiled, wishes_of)

WORKS = ((3, 1, ("late", 6)), (2, 1, ("tardy", 4, 2)), (1, 1, ("miss", 5, 9)))
WISHES = ((0, 2),)


def limits_told(works, wishes, question, table, m):
    """For each LAST ONE of the SET of entry m what the entry is no more than; None where it isn't CLOSED."""
    some = [k for k in range(len(works)) if m // 2 ** k % 2]
    if any(leads(wishes, a, b) and a not in some for b in some for a in range(len(works))):
        return None
    end = works[0][1] + sum(works[j][0] for j in some)
    told = []
    for u in last_ones_told(wishes, some):
        before, cost = table[m - 2 ** u], cost_at_told(works[u][2], end)
        told.append(before + cost if question == "sum" else cost if before is None else max(before, cost))
    return told


def fault_told(works, wishes, question, thing):
    """The first fault, as (path, word), as the document tells it; None where there is none."""
    if thing.__class__ is not tuple or len(thing) != 2 ** len(works):
        return ((), "shape")
    if repr(thing[0]) != ("0" if question == "sum" else "None"):
        return ((0,), "entry")
    for m in range(1, len(thing)):
        told = limits_told(works, wishes, question, thing, m)
        if thing[m].__class__ is not (None.__class__ if told is None else int):
            return ((m,), "entry")
        if told is not None and any(thing[m] > each for each in told):
            return ((m,), "more")
    return None


def with_entry(table, m, entry):
    return table[:m] + (entry,) + table[m + 1:]


class LetsSettable(Case):

    def no(self, path, word, thing, question="sum", works=WORKS, wishes=WISHES):
        self.refused(NoPaper, {"path": path, "word": word}, lets_settable, works, wishes, question, thing)

    def looked_at(self, works, wishes, question, thing):
        """Told or refused is what the document tells; whether the thing is a SET TABLE."""
        kept = copy.deepcopy(thing)
        fault = fault_told(works, wishes, question, thing)
        if fault is None:
            self.same(lets_settable(works, wishes, question, thing), thing[-1])
        else:
            self.no(fault[0], fault[1], thing, question, works, wishes)
        self.same(thing, kept)
        return fault is None

    def test_told(self):
        table = set_table(WORKS, WISHES, "sum")
        self.same(table, (0, -2, 0, 0, None, -2, None, 4))
        self.same(lets_settable(WORKS, WISHES, "sum", table), 4)
        self.same(lets_settable(WORKS, WISHES, "sum", (0, -2, 0, 0, None, -2, None, 3)), 3)
        self.same(lets_settable(WORKS, WISHES, "sum", (0, -9, 0, -6, None, -9, None, -HUGE)), -HUGE)
        table = set_table(WORKS, WISHES, "greatest")
        self.same(table, (None, -2, 0, 0, None, 0, None, 6))
        self.same(lets_settable(WORKS, WISHES, "greatest", table), 6)
        self.same(lets_settable(WORKS[:1], (), "greatest", (None, -2)), -2)
        self.same(lets_settable(WORKS[:1], (), "sum", (0, -3)), -3)

    def test_shape(self):
        for question in QUESTIONS:
            table = set_table(WORKS, WISHES, question)
            for thing in (None, True, 0, "", (), [], list(table), table[:-1], table + (None,), table + table, (table,), HUGE):
                self.no((), "shape", thing, question)

    def test_entry(self):
        for question in QUESTIONS:
            table = set_table(WORKS, WISHES, question)
            for m in range(8):
                for entry in (True, False, "0", "", (), [], (0,), [0], ("x",)):
                    self.no((m,), "entry", with_entry(table, m, entry), question)
        for m in (1, 2, 3, 5, 7):
            self.no((m,), "entry", with_entry(set_table(WORKS, WISHES, "sum"), m, None))
        for m in (4, 6):
            for entry in (0, 1, -HUGE):
                self.no((m,), "entry", with_entry(set_table(WORKS, WISHES, "sum"), m, entry))
        for entry in (None, 1, -1, HUGE):
            self.no((0,), "entry", with_entry(set_table(WORKS, WISHES, "sum"), 0, entry))
        for entry in (0, 1, -HUGE):
            self.no((0,), "entry", with_entry(set_table(WORKS, WISHES, "greatest"), 0, entry), "greatest")

    def test_more(self):
        for question in QUESTIONS:
            table = set_table(WORKS, WISHES, question)
            for m in (1, 2, 3, 5, 7):
                self.no((m,), "more", with_entry(table, m, table[m] + 1), question)
                self.no((m,), "more", with_entry(table, m, HUGE), question)

    def test_entry_by_entry(self):
        table = set_table(WORKS, WISHES, "sum")
        self.no((1,), "more", with_entry(with_entry(table, 1, 0), 2, None))
        self.no((1,), "entry", with_entry(with_entry(table, 1, None), 2, HUGE))
        self.no((3,), "more", with_entry(with_entry(table, 3, 5), 4, 0))
        self.no((3,), "more", with_entry(table, 2, -1))
        self.no((0,), "entry", (None,) * 8)
        self.no((1,), "entry", (None,) * 8, "greatest")

    def test_each_entry_changed_and_each_two(self):
        let_by = 0
        for question in QUESTIONS:
            for wishes in ((), WISHES, ((0, 1), (1, 2)), ((0, 1), (2, 1))):
                table = set_table(WORKS, wishes, question)
                for one, other in itertools.combinations_with_replacement(range(8), 2):
                    for entry, second in itertools.product((None, -3, 0, 4, 9, True), repeat=2):
                        changed = with_entry(with_entry(table, one, entry), other, second)
                        let_by += self.looked_at(WORKS, wishes, question, changed)
        self.assertGreater(let_by, 400)

    def test_any_thing(self):
        for question in QUESTIONS:
            for thing in any_things():
                for many in (1, 2, 3):
                    self.looked_at(WORKS[:many], (), question, thing)
            for thing in spoiled(set_table(WORKS, WISHES, question)):
                self.looked_at(WORKS, WISHES, question, thing)

    def test_whoever_wrote_it_no_order_costs_less(self):
        let_by = 0
        for seed in range(400):
            drawn = Drawn(seed, length=3, coming=4, least=0, most=10)
            works, wishes = drawn.works(3, alike=True), drawn.source.choice(wishes_of(3))
            question = QUESTIONS[seed % 2]
            table = tuple(entry if entry is None else entry - drawn.source.choice((-1, 0, 0, 1, 2))
                          for entry in set_table(works, wishes, question))
            if question == "sum":
                table = with_entry(table, 0, 0)
            if self.looked_at(works, wishes, question, table):
                let_by += 1
                for order in orders_of(3, wishes):
                    self.assertGreaterEqual(cost_told(works, order, question), table[-1])
        self.assertGreater(let_by, 50)

    def test_seven_works_at_the_greatest_bounds(self):
        for seed in range(10):
            drawn = Drawn(seed, most=(400, 150)[seed % 2])
            works, wishes, question = drawn.works(7, alike=True), drawn.wishes(7), QUESTIONS[seed // 2 % 2]
            table = set_table(works, wishes, question)
            self.assertTrue(self.looked_at(works, wishes, question, table))
            for turn in range(4):
                m = drawn.up_to(127)
                for entry in (None, -HUGE, HUGE, True, 0):
                    self.looked_at(works, wishes, question, with_entry(table, m, entry))

    def test_refused_ahead_of_the_paper(self):
        for question in QUESTIONS:
            for thing in (None, (), (0, 1), 7):
                for cost in COSTS:
                    for works in (((2, 0, cost),) * 8, ((2, 0, cost),) * 7 + ((2, 1, ENDS),)):
                        self.refused(TooMany, {"word": "works"}, lets_settable, works, (), question, thing)
                    for works in (((2, 0, cost),) * 6 + ((2, 1, ENDS),), ((2, 0, cost), (2, 1, cost))):
                        self.refused(NoRule, {"word": "coming"}, lets_settable, works, ((0, 1),), question, thing)


if __name__ == "__main__":
    unittest.main()
