"""Points 42 and 43: the late checker."""

import copy
import itertools
import unittest

from benchdays.asking import worth
from benchdays.errors import NoPaper, NoRule
from benchdays.latechecker import lets_table
from benchdays.latetable import table_of
from benchdays.plans import ends_of
from tests.helper import (COSTS, HUGE, MISS, Case, Drawn, any_things, day_plans, no_more_told, spoiled,
                          table_place_told, table_shape_told, with_entry)

WORKS = ((2, 1, ("miss", 4, 2)), (1, 1, ("miss", 3, 1)), (3, 1, ("miss", 4, 0)))
TABLE = ((1, None, None, None), (1, 2, None, None), (1, 2, 3, 4), (1, 2, 3, 4))


class LetsTable(Case):

    def no(self, path, word, thing, works=WORKS):
        self.refused(NoPaper, {"path": path, "word": word}, lets_table, works, thing)

    def looked_at(self, works, thing):
        """Told or refused is what the document tells; whether the thing is LET BY."""
        kept = copy.deepcopy(thing)
        shape = table_shape_told(works, thing)
        place = table_place_told(works, thing) if shape is None else None
        if shape is not None:
            self.no(shape, "shape", thing, works)
        elif place is not None:
            self.no(place[0], place[1], thing, works)
        else:
            full = len(thing[0]) - 1
            greatest = [w for w in range(full + 1) if thing[-1][w] is not None][-1]
            self.same(lets_table(works, thing), full - greatest)
        self.same(thing, kept)
        return shape is None and place is None

    def test_the_true_table(self):
        self.same(table_of(WORKS), TABLE)
        self.same(lets_table(WORKS, TABLE), 0)
        self.same(lets_table(((4, 3, ("miss", 6, 5)),), ((3,) + (None,) * 5, (3,) + (None,) * 5)), 5)
        self.same(lets_table(((4, 3, ("miss", 6, 0)),), ((3,), (3,))), 0)

    def test_entries_that_are_less_show_less(self):
        works = ((4, 3, ("miss", 6, 2)),)
        self.same(lets_table(works, ((3, None, None), (3, None, None))), 2)
        self.same(lets_table(works, ((2, None, None), (2, None, 6))), 0)
        self.same(lets_table(works, ((-HUGE, None, None), (-HUGE, None, -HUGE + 4))), 0)
        self.same(lets_table(works, ((3, 7, None), (3, 7, None))), 1)
        self.same(lets_table(works, ((3, None, None), (3, HUGE, None))), 1)
        self.same(lets_table(works, ((3, None, HUGE), (3, None, HUGE))), 0)

    def test_shape(self):
        for thing in (None, True, 4, "", (), [], list(TABLE), TABLE[:3], TABLE + TABLE[:1], ((),), HUGE):
            self.no((), "shape", thing)
        for k in range(4):
            for row in (None, True, 0, "1234", [], list(TABLE[k]), TABLE[k][:3], TABLE[k] + (None,), ()):
                self.no((k,), "shape", TABLE[:k] + (row,) + TABLE[k + 1:])
            for w in range(4):
                for entry in (True, False, "1", "", (), [], (1,), [None]):
                    self.no((k, w), "shape", with_entry(TABLE, k, w, entry))

    def test_of_two_faults_of_shape_the_first_goes(self):
        self.no((1,), "shape", (TABLE[0], None, None, TABLE[3]))
        self.no((0, 2), "shape", (TABLE[0][:2] + (True, True), None) + TABLE[2:])
        self.no((0,), "shape", ((True,), None) + TABLE[2:])
        self.no((), "shape", (True, None))

    def test_shape_goes_ahead_of_places(self):
        self.no((3, 3), "shape", with_entry(with_entry(TABLE, 0, 0, 99), 3, 3, "x"))
        self.no((3,), "shape", with_entry(TABLE, 0, 0, None)[:3] + ([],))

    def test_begin(self):
        self.no((0, 0), "begin", with_entry(TABLE, 0, 0, 2))
        self.no((0, 0), "begin", with_entry(TABLE, 0, 0, None))
        self.no((0, 0), "begin", with_entry(TABLE, 0, 0, HUGE))
        self.no((0, 0), "begin", ((None,) * 4,) * 4)

    def test_kept_and_more(self):
        self.no((1, 0), "kept", with_entry(TABLE, 1, 0, 2))
        self.no((1, 0), "kept", with_entry(TABLE, 1, 0, None))
        self.no((1, 1), "more", with_entry(TABLE, 1, 1, 3))
        self.no((1, 1), "more", with_entry(TABLE, 1, 1, None))
        self.no((2, 1), "kept", with_entry(TABLE, 2, 1, None))
        self.no((2, 3), "more", with_entry(TABLE, 2, 3, 5))
        self.no((3, 3), "kept", with_entry(TABLE, 3, 3, HUGE))
        self.no((1, 1), "more", with_entry(with_entry(TABLE, 1, 1, None), 2, 0, None))
        self.no((2, 0), "kept", with_entry(TABLE, 2, 0, None))

    def test_each_entry_changed(self):
        for k, w in itertools.product(range(4), repeat=2):
            was = TABLE[k][w]
            for entry in (None, 0, 1, 2, 3, 4, 5, -1, HUGE, -HUGE) + (() if was is None else (was - 1, was + 1)):
                self.looked_at(WORKS, with_entry(TABLE, k, w, entry))

    def test_two_entries_changed(self):
        places = list(itertools.product(range(4), repeat=2))
        let_by = 0
        for one, other in itertools.combinations(places, 2):
            for entry, second in itertools.product((None, 0, 2, 4), repeat=2):
                let_by += self.looked_at(WORKS, with_entry(with_entry(TABLE, *one, entry), *other, second))
        self.assertGreater(let_by, 100)

    def test_any_thing(self):
        for thing in any_things() + spoiled(TABLE):
            self.looked_at(WORKS, thing)
        for thing in any_things():
            self.looked_at(((2, 0, ("miss", 4, 0)),), thing)
            self.looked_at(((2, 0, ("miss", 4, 1)),), thing)

    def test_eight_works_at_the_greatest_bounds(self):
        for seed in range(12):
            drawn = Drawn(seed, most=(400, 150)[seed % 2])
            works = drawn.works(8, ("miss",), alike=True)
            table = table_of(works)
            self.looked_at(works, table)
            for turn in range(20):
                k, w = drawn.up_to(8), drawn.up_to(len(table[0]) - 1)
                for entry in (None, drawn.up_to(300), -HUGE, HUGE, True):
                    self.looked_at(works, with_entry(table, k, w, entry))
        works = tuple((20, 60, ("miss", 100, 9)) for k in range(8))
        self.same(lets_table(works, table_of(works)), 54)

    def test_whoever_wrote_it_no_plan_costs_less(self):
        let_by = 0
        for seed in range(150):
            drawn = Drawn(seed, length=2, coming=1, least=0, most=6, weight=2)
            works = drawn.works(3, ("miss",), alike=True)
            true = table_of(works)
            table = tuple(tuple(drawn.source.choice((entry, entry, drawn.up_to(4))) for entry in row) for row in true)
            if self.looked_at(works, table):
                let_by += 1
                for row, known in zip(table, true):
                    self.assertTrue(all(no_more_told(one, other) for one, other in zip(row, known)))
                for plan in day_plans(works, (), 6):
                    self.assertGreaterEqual(worth(works, ends_of(works, plan), "sum"), lets_table(works, table))
        self.assertGreater(let_by, 5)

    def test_refused_ahead_of_the_paper(self):
        for thing in (None, TABLE, (), 7):
            for cost in COSTS:
                self.refused(NoRule, {"word": "coming"}, lets_table, ((2, 0, cost), (1, 1, MISS)), thing)
                if cost != MISS:
                    self.refused(NoRule, {"word": "miss"}, lets_table, ((2, 1, cost), (1, 1, MISS)), thing)
                    self.refused(NoRule, {"word": "miss"}, lets_table, ((2, 1, MISS), (1, 1, cost)), thing)


if __name__ == "__main__":
    unittest.main()
