"""Point 6: what is promised over the whole program; and of point 2, that nothing told hangs on what was asked."""

import itertools
import unittest

from benchdays.asking import worth
from benchdays.bench import Bench
from benchdays.bests import best, bests_told, how_many
from benchdays.breaking import greatest_plan
from benchdays.casechecker import lets_cases
from benchdays.casing import whole_best
from benchdays.days import best_worth
from benchdays.endchecker import lets_ends
from benchdays.joining import forest_order
from benchdays.lastfirst import greatest_order
from benchdays.latechecker import lets_table
from benchdays.lateorder import late_order
from benchdays.leastleft import ends_paper, left_plan
from benchdays.plans import ends_of
from benchdays.pricechecker import priced
from benchdays.setchecker import lets_set
from benchdays.setjudge import lets_settable
from benchdays.texts import shown_works
from tests.helper import LATE, QUESTIONS, Case, Drawn, cost_told, day_plans, orders_of, renamed, wishes_of

# What can be asked: by "broken" there is no sum.
ASKED = (("greatest", "whole"), ("sum", "whole"), ("greatest", "broken"))
FROM_0 = ("tardy", "miss", "ends", "steps")


def drawn_works(seed, many, words=("late", "tardy", "miss", "ends", "steps")):
    drawn = Drawn(seed, length=6, coming=10, least=0, most=30)
    return drawn, drawn.works(many, words, alike=seed % 2 == 0)


class Papers(Case):

    def test_each_checker_shows_what_the_maker_costs(self):
        for seed in range(30):
            drawn = Drawn(seed, most=120)
            works, wishes = drawn.works(5), drawn.wishes(5)
            plan, some = greatest_plan(works, wishes)
            self.same(lets_set(works, wishes, worth(works, ends_of(works, plan), "greatest"), some), True)
            for question in QUESTIONS:
                order, cases = whole_best(works, wishes, question)
                self.same(lets_cases(works, wishes, question, cost_told(works, order, question), cases), True)
            ends = tuple((length, coming, ("ends", 4)) for length, coming, cost in works)
            self.same(lets_ends(ends, ends_paper(ends)), worth(ends, ends_of(ends, left_plan(ends)), "sum"))

    def test_each_checker_where_all_come_alike(self):
        for seed in range(30):
            drawn = Drawn(seed, most=120)
            works, wishes = drawn.works(6, alike=True), drawn.wishes(6)
            order, some = greatest_order(works, wishes)
            self.same(lets_set(works, wishes, cost_told(works, order, "greatest"), some), True)
            for question in QUESTIONS:
                order, table = best(works, wishes, question)
                self.same(lets_settable(works, wishes, question, table), cost_told(works, order, question))
            late = drawn.works(8, ("miss",), alike=True)
            order, table = late_order(late)
            self.same(lets_table(late, table), cost_told(late, order, "sum"))
            weighted, forest = drawn.works(8, ("ends",), alike=True), drawn.forest(8)
            order, prices = forest_order(weighted, forest)
            self.same(priced(weighted, forest, prices), (cost_told(weighted, order, "sum"), 1))

    def test_makers_of_the_same_thing_agree(self):
        for seed in range(30):
            drawn = Drawn(seed, most=120)
            late, weighted, forest = drawn.works(5, ("miss",), alike=True), drawn.works(5, ("ends",), alike=True), drawn.forest(5)
            self.same(cost_told(late, late_order(late)[0], "sum"), best_worth(late, (), "sum", "whole"))
            self.same(cost_told(weighted, forest_order(weighted, forest)[0], "sum"), best_worth(weighted, forest, "sum", "whole"))
            for question in QUESTIONS:
                works, wishes = drawn.works(5, alike=True), drawn.wishes(5)
                order, cases = whole_best(works, wishes, question)
                self.same(cost_told(works, order, question), best(works, wishes, question)[1][-1])

    def test_prices_bound_the_best_where_wishes_are_no_forest(self):
        for seed in range(30):
            drawn = Drawn(seed)
            weighted, forest, wishes = drawn.works(6, ("ends",), alike=True), drawn.forest(6), drawn.wishes(6)
            prices = [entry for entry in forest_order(weighted, forest)[1] if all((entry[0], b) in wishes for b in entry[1])]
            top, bottom = priced(weighted, wishes, tuple(prices))
            self.assertLessEqual(top, best_worth(weighted, wishes, "sum", "whole") * bottom)


class WholeProgram(Case):

    def test_where_all_come_alike_no_plan_is_better_than_the_best_order(self):
        for wishes in wishes_of(3):
            plans = day_plans(((1, 1, LATE), (2, 1, LATE), (1, 1, LATE)), wishes, 7)
            for seed in range(4):
                costs = [work[2] for work in Drawn(seed, least=0, most=6).works(3)]
                works = tuple(zip((1, 2, 1), (1, 1, 1), costs))
                for question in QUESTIONS:
                    least = min(worth(works, ends, question) for ends in {ends_of(works, plan) for plan in plans})
                    self.same(best_worth(works, wishes, question, "whole"), least)
        for seed in range(60):
            drawn = Drawn(seed, most=150)
            works, wishes = drawn.works(7, alike=True), drawn.wishes(7)
            self.same(best_worth(works, wishes, "greatest", "broken"), best_worth(works, wishes, "greatest", "whole"))

    def test_no_order_is_better_than_the_best_plan(self):
        for seed in range(60):
            drawn, works = drawn_works(2 * seed + 1, 5)
            wishes = drawn.wishes(5, 5)
            self.assertLessEqual(best_worth(works, wishes, "greatest", "broken"), best_worth(works, wishes, "greatest", "whole"))

    def test_a_wish_more_never_makes_it_better(self):
        for seed in range(40):
            drawn, works = drawn_works(seed, 5)
            wishes = drawn.wishes(5, 8)
            for gone in wishes:
                fewer = tuple(wish for wish in wishes if wish != gone)
                for question, way in ASKED:
                    self.assertLessEqual(best_worth(works, fewer, question, way), best_worth(works, wishes, question, way))

    def test_a_work_more_never_makes_it_better(self):
        for seed in range(40):
            for words, asked in ((("late",) + FROM_0, ASKED[::2]), (FROM_0, ASKED)):
                drawn, works = drawn_works(seed, 5, words)
                wishes = drawn.wishes(4, 4)
                for question, way in asked:
                    for more in (wishes, wishes + ((4, 0),)):
                        self.assertLessEqual(best_worth(works[:4], wishes, question, way), best_worth(works, tuple(sorted(more)), question, way))

    def test_names_turned_about_turn_nothing_but_names(self):
        for seed in range(12):
            drawn, works = drawn_works(seed, 4)
            wishes = drawn.wishes(4, 3)
            for row in itertools.permutations(range(4)):
                others, turned = renamed(works, wishes, row)
                for question, way in ASKED:
                    self.same(best_worth(others, turned, question, way), best_worth(works, wishes, question, way))
                if seed % 2 == 0:
                    told = [tuple(row[j] for j in order) for order in bests_told(works, wishes, "sum")]
                    self.same(bests_told(others, turned, "sum"), sorted(told))

    def test_the_same_on_a_bench_whatever_the_names_and_the_order_of_putting(self):
        for seed in range(12):
            drawn, works = drawn_works(seed, 4)
            wishes = drawn.wishes(4, 3)
            for row in itertools.islice(itertools.permutations(range(4)), 0, 24, 5):
                bench = Bench()
                for j in row:
                    bench.put(f"n{j}", works[j], ())
                for a, b in wishes:
                    bench.wish(f"n{a}", f"n{b}")
                for question in QUESTIONS:
                    self.same(bench.best(question)[1], best_worth(works, wishes, question, "whole"))
                self.same(bench.plan()[1], best_worth(works, wishes, "greatest", "broken"))
                if seed % 2 == 0:
                    self.same(bench.many("sum"), how_many(works, wishes, "sum"))

    def test_best_orders_are_just_those_that_cost_the_least(self):
        for seed in range(0, 40, 2):
            drawn, works = drawn_works(seed, 5)
            wishes = drawn.wishes(5, 4)
            for question in QUESTIONS:
                least = best_worth(works, wishes, question, "whole")
                self.same(how_many(works, wishes, question),
                          sum(cost_told(works, order, question) == least for order in orders_of(5, wishes)))


class Anew(Case):

    def test_lists_told_are_the_askers_own(self):
        works = ((2, 0, ("ends", 1)), (1, 0, ("ends", 4)))
        for ask in (lambda: bests_told(works, (), "sum"), lambda: shown_works(works, ())):
            first, second = ask(), ask()
            self.same(first, second)
            first.clear()
            self.same(ask(), second)


if __name__ == "__main__":
    unittest.main()
