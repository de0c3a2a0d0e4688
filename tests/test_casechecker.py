"""Points 76 and 77: the checker of CASES."""

import copy
import itertools
import unittest

from benchdays.casechecker import lets_cases
from benchdays.errors import NoPaper, TooMany
from tests.helper import (COSTS, HUGE, QUESTIONS, Case, Drawn, any_things, cost_at_told, cost_told, costs_told,
                          last_ones_told, leads, orders_of, sets_of, spoiled, wishes_of)

# Work 1 comes late and is held up by 0 as well; 2 and 3 are free, 3 last of all in the chain.
WORKS = ((3, 1, ("late", 6)), (2, 9, ("tardy", 4, 2)), (1, 0, ("miss", 5, 9)), (2, 2, ("ends", 1)))
WISHES = ((0, 1), (1, 3))


def left_told(works, done):
    return [j for j in range(len(works)) if j not in done]


def next_told(works, wishes, done):
    left = left_told(works, done)
    return [j for j in left if not any(leads(wishes, a, j) for a in left)]


def end_told(works, done):
    end = 0
    for j in done:
        end = max(end, works[j][1]) + works[j][0]
    return end


def earliest_told(works, wishes, done, j):
    held = [earliest_told(works, wishes, done, a) + works[a][0] for a, b in wishes if b == j and a not in done]
    return max([works[j][1], end_told(works, done)] + held)


def finish_told(works, wishes, done, some):
    return min(earliest_told(works, wishes, done, j) for j in some) + sum(works[j][0] for j in some)


def soonest_told(works, wishes, done, j):
    return earliest_told(works, wishes, done, j) + works[j][0]


def sum_told(works, wishes, done, later):
    """What the works done cost and the ones LEFT at their SOONEST, added; some of these at a later moment."""
    moments = {j: soonest_told(works, wishes, done, j) for j in left_told(works, done)}
    moments.update(later)
    return sum(costs_told(works, done)) + sum(cost_at_told(works[j][2], t) for j, t in moments.items())


def shows_told(works, wishes, number, done, case):
    """Whether a case without parts shows the number, as the document tells it."""
    if case == ("done",):
        return any(cost >= number for cost in costs_told(works, done))
    if case == ("each",):
        return sum_told(works, wishes, done, {}) >= number
    finish = finish_told(works, wishes, done, case[1])
    last = last_ones_told(wishes, case[1])
    if case[0] == "set":
        return all(cost_at_told(works[u][2], finish) >= number for u in last)
    return all(sum_told(works, wishes, done, {u: max(soonest_told(works, wishes, done, u), finish)}) >= number for u in last)


def has_shape_told(works, wishes, question, done, thing):
    if thing.__class__ is not tuple or len(thing) not in (1, 2) or thing[0].__class__ is not str:
        return False
    if len(thing) == 1:
        return thing[0] == ("done" if question == "greatest" else "each")
    if thing[0] == "next":
        parts = thing[1]
        return parts.__class__ is tuple and 0 < len(parts) == len(next_told(works, wishes, done))
    sets = itertools.chain.from_iterable(itertools.combinations(left_told(works, done), size) for size in range(1, 6))
    return thing[0] == ("set" if question == "greatest" else "last") and repr(thing[1]) in [repr(some) for some in sets]


def fault_told(works, wishes, question, number, thing, done=()):
    """The first fault, as (path, word), as the document tells it; None where there is none."""
    if not has_shape_told(works, wishes, question, done, thing):
        return (done, "shape")
    if thing[0] != "next":
        return None if shows_told(works, wishes, number, done, thing) else (done, "less")
    for u, part in zip(next_told(works, wishes, done), thing[1]):
        fault = fault_told(works, wishes, question, number, part, done + (u,))
        if fault is not None:
            return fault
    return None


def cases_alone(works, question, done):
    """All CASES without parts for a BEGINNING."""
    some = [each for each in sets_of(len(works)) if each and not set(each) & set(done)]
    if question == "greatest":
        return [("done",)] + [("set", each) for each in some]
    return [("each",)] + [("last", each) for each in some]


def all_cases(works, wishes, question, done=(), depth=9):
    """CASES that go on to the end of each ORDER, or as far as the depth lets."""
    if depth == 0 or len(done) == len(works):
        return (("done",) if question == "greatest" else ("each",))
    parts = [all_cases(works, wishes, question, done + (u,), depth - 1) for u in next_told(works, wishes, done)]
    return ("next", tuple(parts))


def drawn_cases(drawn, works, wishes, question, number, done=()):
    """CASES drawn so that most of them show the number."""
    showing = [case for case in cases_alone(works, question, done) if shows_told(works, wishes, number, done, case)]
    if showing and drawn.up_to(3):
        return drawn.source.choice(showing)
    if len(done) == len(works) or not drawn.up_to(30):
        return drawn.source.choice(cases_alone(works, question, done))
    return ("next", tuple(drawn_cases(drawn, works, wishes, question, number, done + (u,))
                          for u in next_told(works, wishes, done)))


def beginnings(works, wishes):
    return sorted({order[:k] for order in orders_of(len(works), wishes) for k in range(len(works) + 1)})


def put_at(works, wishes, cases, done, case, at=()):
    """The CASES with another case in the place for a BEGINNING."""
    if at == done:
        return case
    following = next_told(works, wishes, at)
    k = following.index(done[len(at)])
    parts = cases[1]
    return ("next", parts[:k] + (put_at(works, wishes, parts[k], done, case, at + (following[k],)),) + parts[k + 1:])


def least_told(works, wishes, question):
    return min(cost_told(works, order, question) for order in orders_of(len(works), wishes))


class LetsCases(Case):

    def no(self, path, word, thing, number=0, question="greatest", works=WORKS, wishes=WISHES):
        self.refused(NoPaper, {"path": path, "word": word}, lets_cases, works, wishes, question, number, thing)

    def looked_at(self, works, wishes, question, number, thing):
        """Told or refused is what the document tells; whether the thing is CASES that show the number."""
        kept = copy.deepcopy(thing)
        fault = fault_told(works, wishes, question, number, thing)
        if fault is None:
            self.same(lets_cases(works, wishes, question, number, thing), True)
        else:
            self.no(fault[0], fault[1], thing, number, question, works, wishes)
        self.same(thing, kept)
        return fault is None

    def test_of_one_work(self):
        works = ((3, 2, ("late", 4)),)
        for case in (("set", (0,)), ("next", (("done",),))):
            self.same(lets_cases(works, (), "greatest", 1, case), True)
        for case in (("each",), ("last", (0,)), ("next", (("each",),))):
            self.same(lets_cases(works, (), "sum", 1, case), True)
        self.no((), "less", ("set", (0,)), 2, "greatest", works, ())
        self.no((0,), "less", ("next", (("done",),)), 2, "greatest", works, ())
        self.no((), "less", ("last", (0,)), 2, "sum", works, ())
        self.no((0,), "less", ("next", (("each",),)), 2, "sum", works, ())

    def test_none_done_cost_nothing_at_all(self):
        for number in (0, -1, -HUGE, HUGE):
            self.no((), "less", ("done",), number)
        self.same(lets_cases(WORKS, WISHES, "greatest", -HUGE, ("next", (("done",), ("done",)))), True)

    def test_heads_of_the_left_ones(self):
        works = ((4, 0, ("late", 0)), (2, 1, ("late", 0)), (3, 0, ("late", 0)))
        # All left: 1 is held up by 0 until 4, so ends at 6; 2 may end at 3.
        self.same(lets_cases(works, ((0, 1),), "sum", 13, ("each",)), True)
        self.no((), "less", ("each",), 14, "sum", works, ((0, 1),))
        # One of 0 and 2 ends last of both, at 7, so one of them 3 or 4 later than its soonest.
        self.same(lets_cases(works, ((0, 1),), "sum", 16, ("last", (0, 2))), True)
        self.no((), "less", ("last", (0, 2)), 17, "sum", works, ((0, 1),))
        # The one last of all ends at 9 or later: 1 is then 3 later, 2 is 6 later; 0 is no LAST ONE.
        self.same(lets_cases(works, ((0, 1),), "sum", 16, ("last", (0, 1, 2))), True)
        self.no((), "less", ("last", (0, 1, 2)), 17, "sum", works, ((0, 1),))
        self.same(lets_cases(works, ((0, 1),), "greatest", 9, ("set", (0, 1, 2))), True)
        self.same(lets_cases(works, ((0, 1),), "greatest", 5, ("set", (1, 2))), True)
        self.no((), "less", ("set", (1, 2)), 6, "greatest", works, ((0, 1),))
        # With 2 done first, all move behind its end.
        parts = (("set", (1,)), ("set", (0, 1)))
        self.same(lets_cases(works, ((0, 1),), "greatest", 6, ("next", parts)), True)
        self.no((0,), "less", ("next", parts), 7, "greatest", works, ((0, 1),))
        self.same(lets_cases(works, ((0, 1),), "greatest", 9, ("next", (("set", (1, 2)), ("set", (0, 1))))), True)
        self.no((2,), "less", ("next", (("set", (1, 2)), ("set", (0,)))), 9, "greatest", works, ((0, 1),))

    def test_a_finish_below_the_soonest_counts_as_the_soonest(self):
        works = ((1, 0, ("ends", 1)), (1, 9, ("ends", 1)))
        self.same(lets_cases(works, (), "sum", 11, ("last", (0, 1))), True)
        self.same(lets_cases(works, (), "sum", 11, ("last", (1,))), True)
        self.no((), "less", ("last", (0, 1)), 12, "sum", works, ())

    def test_last_ones_through_works_outside(self):
        # 0 is AHEAD of 3 through 1, which isn't in the set: 3 alone is the last one of both.
        self.same(lets_cases(WORKS, WISHES, "greatest", 6, ("set", (0, 3))), True)
        self.no((), "less", ("set", (0, 3)), 7)

    def test_shape(self):
        for question, other in (QUESTIONS, QUESTIONS[::-1]):
            bad = [None, True, 0, "", "done", (), [], ["done"], [("done",)], ("next",), ("next", ()), ("next", (None,)),
                   ("next", []), ("next", ((), (), ())), ("next", [("done",), ("done",)]), ("next", "xy"), ("set",),
                   ("last",), ("done", ()), ("each", ()), ("done", None), (True,), (0,), (None, (0,)), (("done",),),
                   ("next", ((), ()), ()), ("set", (0,), 1), ("last", (0,), 1), ("", (0,)), ("x",), ("x", (0,))]
            word = cases_alone(WORKS, question, ())[-1][0]
            bad += cases_alone(WORKS, other, ())
            for some in ((), [], [0], None, 0, True, "0", (4,), (-1,), (1, 0), (0, 0), (True,), (0, True), (0, "1"), ((0,),),
                         (HUGE,), ([],), (0, 1, 2, 3, 4)):
                bad.append((word, some))
            for thing in bad:
                for number in (-HUGE, 0, HUGE):
                    self.no((), "shape", thing, number, question)

    def test_shape_of_parts(self):
        for question, word in zip(QUESTIONS, ("set", "last")):
            alone = cases_alone(WORKS, question, ())[0]
            for bad in ((word, (0,)), (word, (0, 1)), ("next", (alone,)), ("next", (alone,) * 3), None, [alone[0]], (word, ())):
                self.no((0,), "shape", ("next", (bad, None)), -HUGE, question)
            self.no((2,), "shape", ("next", (alone, (word, (2,)))), -HUGE, question)
            self.same(lets_cases(WORKS, WISHES, question, -HUGE, ("next", (alone, (word, (0, 1, 3))))), True)

    def test_nothing_left(self):
        for question, word in zip(QUESTIONS, ("set", "last")):
            alone = cases_alone(WORKS, question, ())[0]
            for bad in (("next", ()), ("next", (alone,)), (word, ()), (word, (0,))):
                self.no((0,), "shape", ("next", (bad,)), -HUGE, question, WORKS[:1], ())
            self.same(lets_cases(WORKS[:1], (), question, -HUGE, ("next", (alone,))), True)

    def test_the_first_that_is_amiss_goes(self):
        for question in QUESTIONS:
            cases = all_cases(WORKS, WISHES, question)
            places = beginnings(WORKS, WISHES)
            for one, other in itertools.permutations(places, 2):
                thing = put_at(WORKS, WISHES, cases, one, None)
                if other[:len(one)] != one:
                    thing = put_at(WORKS, WISHES, thing, other, [])
                    # Rising beginnings are just the order in which the parts are looked at.
                    self.no(min(one, other), "shape", thing, -HUGE, question)

    def test_shape_and_less_in_their_order(self):
        less = ("next", (("done",), None))
        self.no((0,), "less", less, HUGE)
        self.no((2,), "shape", less, -HUGE)
        self.no((0,), "shape", ("next", (None, ("done",))), HUGE)

    def test_all_cases_without_parts_behind_each_beginning(self):
        for question in QUESTIONS:
            cases = all_cases(WORKS, WISHES, question)
            for done in beginnings(WORKS, WISHES):
                for case in cases_alone(WORKS, question, done):
                    for number in (-20, -2, 0, 1, 6, 7, 9, 10, 14, 20, 24):
                        self.looked_at(WORKS, WISHES, question, number, put_at(WORKS, WISHES, cases, done, case))

    def test_up_to_the_least_that_an_order_costs(self):
        for wishes in wishes_of(3):
            for costs in itertools.permutations(COSTS, 3):
                works = tuple(zip((3, 1, 2), (0, 4, 2), costs))
                for question in QUESTIONS:
                    cases, least = all_cases(works, wishes, question), least_told(works, wishes, question)
                    self.same(lets_cases(works, wishes, question, least, cases), True)
                    self.same(lets_cases(works, wishes, question, -HUGE, cases), True)
                    self.assertFalse(self.looked_at(works, wishes, question, least + 1, cases))
                    self.assertFalse(self.looked_at(works, wishes, question, HUGE, cases))

    def test_whoever_wrote_them_no_order_costs_less(self):
        let_by = 0
        for seed in range(600):
            drawn = Drawn(seed, length=4, coming=8, least=0, most=15)
            works, wishes, question = drawn.works(4), drawn.wishes(4, 4), QUESTIONS[seed % 2]
            least = least_told(works, wishes, question)
            number = least + drawn.source.choice((-3, -1, 0, 0, 1, 2))
            if self.looked_at(works, wishes, question, number, drawn_cases(drawn, works, wishes, question, number)):
                let_by += 1
                self.assertLessEqual(number, least)
        self.assertGreater(let_by, 200)

    def test_five_works_at_the_greatest_bounds(self):
        let_by = 0
        for seed in range(60):
            drawn = Drawn(seed, most=(400, 120)[seed % 2])
            works, wishes, question = drawn.works(5), drawn.wishes(5), QUESTIONS[seed // 2 % 2]
            least = least_told(works, wishes, question)
            self.same(lets_cases(works, wishes, question, least, all_cases(works, wishes, question)), True)
            for number in (least, least - 1, least + 1):
                let_by += self.looked_at(works, wishes, question, number, drawn_cases(drawn, works, wishes, question, number))
        self.assertGreater(let_by, 40)
        most = tuple((20, 60, ("tardy", -99, 9)) for k in range(5))
        self.same(lets_cases(most, (), "greatest", 9 * 259, ("set", (0, 1, 2, 3, 4))), True)
        self.same(lets_cases(most, (), "greatest", 9 * 259, all_cases(most, (), "greatest")), True)

    def test_any_thing(self):
        for question in QUESTIONS:
            for thing in any_things():
                for number in (-HUGE, 0, HUGE):
                    self.looked_at(WORKS, WISHES, question, number, thing)
                    self.looked_at(WORKS[:2], (), question, number, ("next", (all_cases(WORKS[:2], (), question)[1][0], thing)))
            word = cases_alone(WORKS, question, ())[-1]
            for thing in spoiled(("next", (word[:1] + ((1, 3),), all_cases(WORKS, WISHES, question)[1][1]))):
                self.looked_at(WORKS, WISHES, question, -HUGE, thing)

    def test_more_than_five_are_refused_ahead_of_all_else(self):
        for question in QUESTIONS:
            for many in (6, 7, 8):
                for thing in (None, ("done",), ("each",), ()):
                    for comings in ((0,) * 8, tuple(range(8))):
                        works = tuple((2, comings[k], COSTS[k % 5]) for k in range(many))
                        self.refused(TooMany, {"word": "works"}, lets_cases, works, ((0, 1),), question, 0, thing)


if __name__ == "__main__":
    unittest.main()
