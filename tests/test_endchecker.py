"""Points 49 and 50: the ends checker."""

import copy
import itertools
import unittest

from benchdays.asking import worth
from benchdays.endchecker import lets_ends
from benchdays.errors import NoPaper, NoRule
from benchdays.latetable import table_of
from benchdays.leastleft import ends_paper, turned
from benchdays.plans import ends_of
from tests.helper import (COSTS, ENDS, HUGE, Case, Drawn, any_things, day_plans, spoiled, table_place_told,
                          table_shape_told, with_entry)

WORKS = ((3, 0, ("ends", 2)), (1, 1, ("ends", 2)))
PAPER = ((2, ((0, None, None), (0, None, None), (0, None, None))),
         (4, ((0, None, None), (0, 1, None), (0, 1, None))))


def fault_told(works, thing):
    """The first fault, as (path, word), as the document tells it; None where there is none."""
    if thing.__class__ is not tuple or len(thing) != len(works):
        return ((), "shape")
    for k, entry in enumerate(thing):
        if entry.__class__ is not tuple or len(entry) != 2 or entry[0].__class__ is not int:
            return ((k,), "shape")
        path = table_shape_told(turned(works, entry[0] - 1), entry[1])
        if path is not None:
            return ((k, 1) + path, "shape")
    for k, (moment, table) in enumerate(thing):
        place = table_place_told(turned(works, moment - 1), table)
        if place is not None:
            return ((k, 1) + place[0], place[1])
        if any(entry is not None for entry in table[-1][k + 1:]):
            return ((k,), "many")
    return None


def true_entry(works, moment):
    return (moment, table_of(turned(works, moment - 1)))


class LetsEnds(Case):

    def no(self, path, word, thing, works=WORKS):
        self.refused(NoPaper, {"path": path, "word": word}, lets_ends, works, thing)

    def looked_at(self, works, thing):
        """Told or refused is what the document tells; whether the thing is an ENDS PAPER."""
        kept = copy.deepcopy(thing)
        fault = fault_told(works, thing)
        if fault is None:
            self.same(lets_ends(works, thing), works[0][2][1] * sum(moment for moment, table in thing))
        else:
            self.no(fault[0], fault[1], thing, works)
        self.same(thing, kept)
        return fault is None

    def test_told(self):
        self.same(ends_paper(WORKS), PAPER)
        self.same(lets_ends(WORKS, PAPER), 12)

    def test_earlier_moments_show_less(self):
        for one, other in itertools.product((2, 1, 0, -5, -HUGE), (4, 3, 2, 1, -HUGE)):
            paper = (true_entry(WORKS, one), true_entry(WORKS, other))
            self.same(lets_ends(WORKS, paper), 2 * (one + other))

    def test_later_moments_are_too_many(self):
        for moment in (3, 5, 99, HUGE):
            self.no((0,), "many", (true_entry(WORKS, moment), PAPER[1]))
        for moment in (5, 6, 99, HUGE):
            self.no((1,), "many", (PAPER[0], true_entry(WORKS, moment)))
        self.no((0,), "many", (true_entry(WORKS, 3), true_entry(WORKS, 5)))

    def test_a_table_of_another_moment(self):
        self.no((0, 1, 1, 1), "more", ((3, PAPER[0][1]), PAPER[1]))
        self.no((1, 1, 2, 2), "more", (PAPER[0], (5, PAPER[1][1])))
        self.same(lets_ends(WORKS, ((-HUGE, PAPER[0][1]), PAPER[1])), 2 * (4 - HUGE))

    def test_shape(self):
        for thing in (None, True, 3, "", (), [], list(PAPER), PAPER[:1], PAPER + PAPER[:1]):
            self.no((), "shape", thing)
        for k in range(2):
            for entry in (None, True, 3, (), [], list(PAPER[k]), PAPER[k][:1], PAPER[k] + (None,), (True, PAPER[k][1]),
                          (None, PAPER[k][1]), ("2", PAPER[k][1]), (None, None)):
                self.no((k,), "shape", PAPER[:k] + (entry,) + PAPER[k + 1:])
            for table in (None, True, (), list(PAPER[k][1]), PAPER[k][1][:2]):
                self.no((k, 1), "shape", PAPER[:k] + ((PAPER[k][0], table),) + PAPER[k + 1:])
            for row in (None, (), [0, None, None], (0, None), (0, None, None, None)):
                self.no((k, 1, 2), "shape", PAPER[:k] + ((PAPER[k][0], PAPER[k][1][:2] + (row,)),) + PAPER[k + 1:])
            table = with_entry(PAPER[k][1], 1, 2, False)
            self.no((k, 1, 1, 2), "shape", PAPER[:k] + ((PAPER[k][0], table),) + PAPER[k + 1:])

    def test_of_two_faults_the_first_goes(self):
        begin = (2, with_entry(PAPER[0][1], 0, 0, 1))
        self.no((0, 1, 0, 0), "begin", (begin, PAPER[1]))
        self.no((1,), "shape", (begin, None))
        self.no((1, 1, 2, 2), "shape", (begin, (4, with_entry(PAPER[1][1], 2, 2, "x"))))
        self.no((0, 1), "shape", ((2, None), None))
        self.no((0, 1, 0, 0), "begin", (begin, (9, with_entry(PAPER[1][1], 0, 0, None))))
        self.no((0,), "many", (true_entry(WORKS, 3), (4, with_entry(PAPER[1][1], 0, 0, None))))
        self.no((0, 1, 2, 0), "kept", ((2, with_entry(with_entry(PAPER[0][1], 2, 0, 1), 2, 2, 0)), PAPER[1]))

    def test_each_entry_changed(self):
        for at, k, w in itertools.product(range(2), range(3), range(3)):
            for entry in (None, 0, 1, 2, 3, 4, -1, HUGE, -HUGE, True):
                changed = (PAPER[at][0], with_entry(PAPER[at][1], k, w, entry))
                self.looked_at(WORKS, PAPER[:at] + (changed,) + PAPER[at + 1:])

    def test_any_thing(self):
        for thing in any_things() + spoiled(PAPER):
            self.looked_at(WORKS, thing)
            self.looked_at(WORKS[:1], (thing,))
            self.looked_at(WORKS[:1], ((1, thing),))
            self.looked_at(WORKS[:1], ((thing, PAPER[0][1]),))

    def test_whoever_wrote_it_no_plan_costs_less(self):
        let_by = 0
        for seed in range(200):
            drawn = Drawn(seed, length=2, coming=3)
            works = tuple((length, coming, ("ends", 3)) for length, coming, other in drawn.works(3))
            paper = tuple(true_entry(works, moment - drawn.up_to(1)) for moment, table in ends_paper(works))
            moment, table = paper[seed % 3]
            changed = (moment, with_entry(table, drawn.up_to(3), drawn.up_to(3), drawn.source.choice((None, 0, 1, -1, 2))))
            thing = paper[:seed % 3] + (changed,) + paper[seed % 3 + 1:]
            if self.looked_at(works, thing):
                let_by += 1
                for plan in day_plans(works, (), 7):
                    ends = ends_of(works, plan)
                    self.assertGreaterEqual(worth(works, ends, "sum"), lets_ends(works, thing))
                    for k, (moment, table) in enumerate(thing):
                        self.assertLessEqual(sum(end < moment for end in ends), k)
        self.assertGreater(let_by, 30)

    def test_eight_works_at_the_greatest_bounds(self):
        for seed in range(10):
            drawn = Drawn(seed)
            works = tuple((length, coming, ("ends", 9)) for length, coming, other in drawn.works(8))
            paper = ends_paper(works)
            self.looked_at(works, paper)
            for turn in range(20):
                at, k, w = drawn.up_to(7), drawn.up_to(8), drawn.up_to(8)
                for entry in (None, drawn.up_to(99), -HUGE, HUGE):
                    changed = (paper[at][0], with_entry(paper[at][1], k, w, entry))
                    self.looked_at(works, paper[:at] + (changed,) + paper[at + 1:])

    def test_refused_ahead_of_the_paper(self):
        for thing in (None, PAPER, ()):
            for cost in COSTS:
                if cost != ENDS:
                    self.refused(NoRule, {"word": "ends"}, lets_ends, ((2, 0, cost),), thing)
                    self.refused(NoRule, {"word": "ends"}, lets_ends, ((2, 0, ENDS), (1, 3, ("ends", 1)), (1, 3, cost)), thing)
            self.refused(NoRule, {"word": "weights"}, lets_ends, ((2, 0, ENDS), (1, 3, ("ends", 1))), thing)


if __name__ == "__main__":
    unittest.main()
