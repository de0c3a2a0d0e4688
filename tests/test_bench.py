"""Points 84 to 86: a bench, its deeds, and what it tells."""

import copy
import unittest

from benchdays.bench import Bench
from benchdays.bests import how_many
from benchdays.days import best_worth, due_worth
from benchdays.errors import BenchError, NoBack, NoRule, NoWish, NoWork, TooMany
from benchdays.orders import is_order
from benchdays.plans import is_plan
from tests.helper import COSTS, ENDS, LATE, MISS, QUESTIONS, STEPS, TARDY, Case, Drawn, cost_at_told, cost_told, leads

NAMES = ("a", "b", "c", "d", "e", "f", "g", "h", "longname", "0")


class Model:
    """A bench as the document tells it: rows (name, WORK) and WISHES by names."""

    def __init__(self):
        self.rows = []
        self.pairs = []
        self.done = []

    def told(self):
        """The NAMES, WORKS and WISHES."""
        names = [name for name, work in self.rows]
        wishes = sorted((names.index(one), names.index(other)) for one, other in self.pairs)
        return (tuple(names), tuple(work for name, work in self.rows), tuple(wishes))

    def names(self):
        return [name for name, work in self.rows]

    def fault_of_names(self, asked):
        missing = [name for name in asked if name not in self.names()]
        return (NoWork, {"name": missing[0]}) if missing else None

    def fault(self, deed, *things):
        """The refusal, as (error, fields), as the document tells it; None where there is none."""
        return getattr(self, "fault_of_" + deed)(*things)

    def fault_of_put(self, name, work, ahead):
        if len(self.rows) == 8:
            return (TooMany, {"word": "works"})
        if name in self.names():
            return (NoWork, {"name": name})
        if self.fault_of_names(ahead):
            return self.fault_of_names(ahead)
        if len(set(ahead)) < len(ahead):
            return (NoWish, {"word": "twice"})
        if len(self.pairs) + len(ahead) > 16:
            return (TooMany, {"word": "wishes"})
        return None

    def fault_of_wish(self, one, other):
        if self.fault_of_names((one, other)):
            return self.fault_of_names((one, other))
        if one == other or leads(self.pairs, other, one):
            return (NoWish, {"word": "ring"})
        if (one, other) in self.pairs:
            return (NoWish, {"word": "twice"})
        if len(self.pairs) == 16:
            return (TooMany, {"word": "wishes"})
        return None

    def fault_of_unwish(self, one, other):
        if self.fault_of_names((one, other)):
            return self.fault_of_names((one, other))
        return None if (one, other) in self.pairs else (NoWish, {"word": "none"})

    def fault_of_take(self, name):
        return self.fault_of_names((name,))

    def fault_of_back(self):
        return None if self.done else (NoBack, {})

    def do(self, deed, *things):
        """Does a deed that isn't refused; what is told of it."""
        if deed == "back":
            told, self.rows, self.pairs = self.done.pop()
            return told
        self.done.append(((deed,) + (things[:1] if deed == "put" else things), list(self.rows), list(self.pairs)))
        if deed == "put":
            self.rows.append(things[:2])
            self.pairs += [(one, things[0]) for one in things[2]]
            return len(self.rows) - 1
        if deed == "take":
            self.rows = [row for row in self.rows if row[0] != things[0]]
            self.pairs = [pair for pair in self.pairs if things[0] not in pair]
            return len(self.rows)
        self.pairs = [pair for pair in self.pairs if pair != things] + ([things] if deed == "wish" else [])
        return len(self.pairs)


def drawn_deed(drawn, model):
    """A deed drawn so that many of them are refused, each in its way."""
    names = list(NAMES) + model.names() * 4
    deed = drawn.source.choice(("put",) * 6 + ("wish",) * 7 + ("unwish",) * 2 + ("take", "back", "back"))
    if deed == "put":
        ahead = tuple(drawn.source.choice(names) for k in range(drawn.source.choice((0, 0, 1, 2, 3, 5))))
        return (deed, drawn.source.choice(NAMES), drawn.works(1)[0], ahead)
    if deed == "take":
        return (deed, drawn.source.choice(names))
    if deed == "back":
        return (deed,)
    if deed == "unwish" and model.pairs and drawn.up_to(2):
        return (deed,) + drawn.source.choice(model.pairs)
    return (deed, drawn.source.choice(names), drawn.source.choice(names))


def state(bench):
    return (bench.names(), bench.works(), bench.wishes())


def filled(rows, wishes=()):
    """A bench with works of such lengths, comings and costs, by the names a, b and so on."""
    bench = Bench()
    for name, work in zip(NAMES, rows):
        bench.put(name, work, ())
    for one, other in wishes:
        bench.wish(one, other)
    return bench


class Deeds(Case):

    def does(self, bench, told, deed, *things):
        self.same(getattr(bench, deed)(*things), told)

    def no(self, bench, error, fields, deed, *things):
        """The deed is refused, and nothing is changed by it, not what can be taken back either."""
        kept = repr(state(bench))
        self.refused(error, fields, getattr(bench, deed), *things)
        self.same(repr(state(bench)), kept)

    def test_none_at_first(self):
        self.same(state(Bench()), ((), (), ()))
        self.no(Bench(), NoBack, {}, "back")
        self.no(Bench(), NoWork, {"name": "a"}, "take", "a")
        self.no(Bench(), NoWork, {"name": "a"}, "wish", "a", "b")
        self.no(Bench(), NoWork, {"name": "a"}, "put", "b", (1, 0, LATE), ("a",))

    def test_put(self):
        bench = Bench()
        self.does(bench, 0, "put", "b", (3, 1, LATE), ())
        self.does(bench, 1, "put", "a", (2, 0, STEPS), ("b",))
        self.does(bench, 2, "put", "9", (1, 0, ENDS), ("a", "b"))
        self.same(state(bench), (("b", "a", "9"), ((3, 1, LATE), (2, 0, STEPS), (1, 0, ENDS)), ((0, 1), (0, 2), (1, 2))))

    def test_put_refused(self):
        bench = filled([(1, 0, LATE)] * 2)
        self.no(bench, NoWork, {"name": "a"}, "put", "a", (1, 0, ENDS), ())
        self.no(bench, NoWork, {"name": "a"}, "put", "a", (1, 0, ENDS), ("x", "x"))
        self.no(bench, NoWork, {"name": "x"}, "put", "c", (1, 0, ENDS), ("a", "x", "y", "a"))
        self.no(bench, NoWork, {"name": "c"}, "put", "c", (1, 0, ENDS), ("c",))
        self.no(bench, NoWish, {"word": "twice"}, "put", "c", (1, 0, ENDS), ("b", "a", "b"))
        full = filled([(1, 0, LATE)] * 8)
        for name in ("a", "new"):
            self.no(full, TooMany, {"word": "works"}, "put", name, (1, 0, ENDS), ("x", "x"))

    def test_as_many_wishes_as_there_may_be(self):
        bench = filled([(1, 0, LATE)] * 7, [("a", name) for name in "bcdefg"] + [("b", name) for name in "cdefg"])
        self.same(len(bench.wishes()), 11)
        self.no(bench, TooMany, {"word": "wishes"}, "put", "h", (1, 0, LATE), tuple("abcdef"))
        self.no(bench, NoWish, {"word": "twice"}, "put", "h", (1, 0, LATE), tuple("abcdeff"))
        self.does(bench, 7, "put", "h", (1, 0, LATE), tuple("abcde"))
        self.same(len(bench.wishes()), 16)
        self.no(bench, TooMany, {"word": "wishes"}, "wish", "c", "d")
        self.no(bench, NoWish, {"word": "twice"}, "wish", "a", "b")
        self.no(bench, NoWish, {"word": "ring"}, "wish", "b", "a")
        self.no(bench, NoWork, {"name": "x"}, "wish", "a", "x")
        self.does(bench, 15, "unwish", "a", "b")
        self.does(bench, 16, "wish", "c", "d")

    def test_wish_and_unwish(self):
        bench = filled([(1, 0, LATE)] * 4)
        self.does(bench, 1, "wish", "c", "b")
        self.does(bench, 2, "wish", "b", "a")
        self.same(bench.wishes(), ((1, 0), (2, 1)))
        self.no(bench, NoWish, {"word": "ring"}, "wish", "a", "c")
        self.no(bench, NoWish, {"word": "ring"}, "wish", "a", "b")
        self.no(bench, NoWish, {"word": "ring"}, "wish", "d", "d")
        self.no(bench, NoWish, {"word": "twice"}, "wish", "c", "b")
        self.no(bench, NoWork, {"name": "x"}, "wish", "x", "y")
        self.no(bench, NoWork, {"name": "y"}, "wish", "a", "y")
        self.does(bench, 3, "wish", "c", "a")
        for deed in (("c", "d"), ("a", "c"), ("b", "b")):
            self.no(bench, NoWish, {"word": "none"}, "unwish", *deed)
        self.no(bench, NoWork, {"name": "x"}, "unwish", "x", "y")
        self.no(bench, NoWork, {"name": "y"}, "unwish", "a", "y")
        self.does(bench, 2, "unwish", "b", "a")
        self.no(bench, NoWish, {"word": "none"}, "unwish", "b", "a")
        self.same(bench.wishes(), ((2, 0), (2, 1)))

    def test_take(self):
        bench = filled([(k + 1, 0, LATE) for k in range(5)], [("a", "b"), ("b", "d"), ("c", "e"), ("e", "d"), ("a", "c")])
        self.does(bench, 4, "take", "b")
        self.same(state(bench), (("a", "c", "d", "e"), tuple((k, 0, LATE) for k in (1, 3, 4, 5)), ((0, 1), (1, 3), (3, 2))))
        self.no(bench, NoWork, {"name": "b"}, "take", "b")
        self.does(bench, 4, "put", "b", (9, 0, LATE), ("d",))
        self.same(bench.names(), ("a", "c", "d", "e", "b"))
        for name, left in zip("acdeb", (4, 3, 2, 1, 0)):
            self.does(bench, left, "take", name)
        self.same(state(bench), ((), (), ()))

    def test_back(self):
        bench = filled([(1, 0, LATE)] * 3, [("a", "b")])
        states = [state(bench)]
        deeds = [("wish", "c", "b"), ("unwish", "a", "b"), ("take", "b"), ("wish", "a", "c")]
        for deed in deeds:
            getattr(bench, deed[0])(*deed[1:])
            states.append(state(bench))
            self.refused(BenchError, {}, bench.take, "x")
        for deed, before in zip(deeds[::-1], states[-2::-1]):
            self.does(bench, deed, "back")
            self.same(state(bench), before)
        for deed in (("wish", "a", "b"), ("put", "c"), ("put", "b"), ("put", "a")):
            self.does(bench, deed, "back")
        self.same(state(bench), ((), (), ()))
        self.no(bench, NoBack, {}, "back")
        self.no(bench, NoBack, {}, "back")

    def test_taking_back_is_no_deed(self):
        bench = filled([(1, 0, LATE)] * 2)
        self.does(bench, ("put", "b"), "back")
        self.does(bench, 1, "put", "c", (2, 0, ENDS), ("a",))
        self.does(bench, ("put", "c"), "back")
        self.does(bench, ("put", "a"), "back")
        self.no(bench, NoBack, {}, "back")

    def test_drawn_deeds(self):
        seen = {}
        for seed in range(120):
            drawn = Drawn(seed)
            bench, model = Bench(), Model()
            for turn in range(60):
                deed = drawn_deed(drawn, model)
                kept = copy.deepcopy(deed)
                fault = model.fault(*deed)
                seen[deed[0], repr(fault and fault[1].get("word", "name"))] = True
                if fault is not None:
                    self.refused(*fault, getattr(bench, deed[0]), *deed[1:])
                else:
                    self.does(bench, model.do(*deed), *deed)
                self.same(deed, kept)
                self.same(state(bench), model.told())
        # Each refusal of each deed came, but that of sixteen wishes to a work, which is tested by itself.
        self.assertGreaterEqual(len(seen), 15)

    def test_two_benches_know_nothing_of_one_another(self):
        one, other = Bench(), Bench()
        one.put("a", (1, 0, LATE), ())
        self.same(state(other), ((), (), ()))
        self.no(other, NoBack, {}, "back")
        other.put("a", (2, 0, ENDS), ())
        other.put("b", (2, 0, ENDS), ("a",))
        self.same(state(one), (("a",), ((1, 0, LATE),), ()))
        self.same(one.back(), ("put", "a"))
        self.same(state(other), (("a", "b"), ((2, 0, ENDS),) * 2, ((0, 1),)))

    def test_what_was_told_stays(self):
        bench = filled([(1, 0, LATE)] * 2, [("a", "b")])
        told, kept = state(bench), repr(state(bench))
        bench.take("a")
        bench.put("c", (3, 0, ENDS), ("b",))
        self.same(repr(told), kept)


class Tells(Case):

    def asks(self, bench):
        """What the bench tells is what its works of now have."""
        names, works, wishes = state(bench)
        for question in QUESTIONS:
            order, cost = bench.best(question)
            row = tuple(names.index(name) for name in order)
            self.same(bench.best(question).__class__, tuple)
            self.same(is_order(works, wishes, row), True)
            self.same(cost, cost_told(works, row, question))
            self.same(cost, best_worth(works, wishes, question, "whole"))
        self.asks_plan(bench)

    def asks_plan(self, bench):
        names, works, wishes = state(bench)
        pieces, cost = bench.plan()
        self.assertEqual({pieces.__class__, pieces[0].__class__}, {tuple})
        plan = tuple((names.index(name), begin, end) for name, begin, end in pieces)
        self.same(is_plan(works, wishes, plan), True)
        ends = {j: end for j, begin, end in plan}
        self.same(cost, max(cost_at_told(works[j][2], ends[j]) for j in ends))
        self.same(cost, best_worth(works, wishes, "greatest", "broken"))

    def test_told(self):
        bench = filled([(2, 0, ("late", 9)), (3, 0, ("late", 1)), (1, 0, ("late", 3))])
        self.same(bench.best("greatest"), (("b", "c", "a"), 2))
        self.same(bench.best("sum"), (("c", "a", "b"), -3))
        self.same(bench.plan()[1], 2)
        self.same(bench.many("greatest"), 1)
        self.same(bench.later("b", 3, "greatest"), (2, 1, 1, 0))
        self.same(bench.later("c", 1, "sum"), (-3, -4))
        bench.wish("a", "b")
        self.same(bench.best("greatest")[1], 4)
        self.same(bench.many("greatest"), 1)
        self.same(bench.later("a", 0, "greatest"), (4,))

    def test_drawn_benches(self):
        for seed in range(40):
            drawn = Drawn(seed, most=(400, 100)[seed % 2])
            many = drawn.up_to(4) + 1
            works, wishes = drawn.works(many), drawn.wishes(many)
            bench = filled(works, [(NAMES[a], NAMES[b]) for a, b in wishes])
            self.same(state(bench), (tuple(NAMES[:many]), works, wishes))
            kept = repr(state(bench))
            self.asks(bench)
            self.same(repr(state(bench)), kept)

    def test_seven_and_eight_that_come_alike(self):
        drawn = Drawn(5, most=150)
        works, wishes = drawn.works(8, ("late", "tardy", "miss"), alike=True), drawn.wishes(7)
        bench = filled(works[:7], [(NAMES[a], NAMES[b]) for a, b in wishes])
        self.asks(bench)
        for question in QUESTIONS:
            self.same(bench.many(question), how_many(works[:7], wishes, question))
            self.same(bench.later("c", 12, question), due_worth(works[:7], wishes, question, "whole", 2, 12))
        bench.put("h", works[7], ())
        self.asks_plan(bench)
        self.refused_with_too_many(bench, "a")
        bench.back()
        self.asks(bench)

    def refused_with_too_many(self, bench, name):
        for question in QUESTIONS:
            self.refused(TooMany, {"word": "works"}, bench.best, question)
            self.refused(TooMany, {"word": "works"}, bench.later, name, 0, question)

    def test_unlike(self):
        bench = filled([(2, k, cost) for k, cost in enumerate((LATE, TARDY, MISS, ENDS, STEPS))])
        self.asks(bench)
        for question in QUESTIONS:
            self.refused(NoRule, {"word": "coming"}, bench.many, question)
        bench.put("f", (2, 0, ENDS), ())
        self.refused_with_too_many(bench, "a")
        self.refused_with_too_many(bench, "f")
        for question in QUESTIONS:
            self.refused(NoRule, {"word": "coming"}, bench.many, question)
        bench.put("g", (2, 0, ENDS), ())
        bench.put("h", (2, 0, ENDS), ())
        for question in QUESTIONS:
            self.refused(TooMany, {"word": "works"}, bench.many, question)
        self.asks_plan(bench)

    def test_later_refused(self):
        bench = filled([(2, 0, cost) for cost in COSTS])
        for question in QUESTIONS:
            self.refused(NoWork, {"name": "x"}, bench.later, "x", 3, question)
            for name, cost in zip(NAMES, COSTS):
                if cost in (ENDS, STEPS):
                    self.refused(NoRule, {"word": "due"}, bench.later, name, 3, question)
                else:
                    self.same(len(bench.later(name, 3, question)), 4)
        full = filled([(2, 0, ENDS)] * 8)
        self.refused(NoWork, {"name": "x"}, full.later, "x", 3, "sum")
        self.refused(TooMany, {"word": "works"}, full.later, "a", 3, "sum")

    def test_no_works(self):
        emptied = filled([(2, 0, LATE)])
        emptied.take("a")
        for bench in (Bench(), emptied):
            for question in QUESTIONS:
                self.refused(NoRule, {"word": "none"}, bench.best, question)
                self.refused(NoRule, {"word": "none"}, bench.many, question)
                self.refused(NoRule, {"word": "none"}, bench.later, "x", 3, question)
            self.refused(NoRule, {"word": "none"}, bench.plan)

    def test_taken_back_is_as_never_there(self):
        for seed in range(25):
            drawn = Drawn(seed, most=100)
            works, wishes = drawn.works(4, alike=seed % 2), drawn.wishes(4, 4)
            pairs = [(NAMES[a], NAMES[b]) for a, b in wishes]
            plain, bench = filled(works, pairs), filled(works, pairs)
            for deed in (lambda: bench.put("e", drawn.works(1)[0], ("a",)), lambda: bench.take("b"),
                         lambda: bench.wish(bench.names()[0], bench.names()[-1])):
                try:
                    deed()
                except NoWish:
                    continue
                bench.best("sum")
                bench.back()
                self.same(state(bench), state(plain))
                for question in QUESTIONS:
                    self.same(bench.best(question)[1], plain.best(question)[1])
                self.same(bench.plan()[1], plain.plan()[1])


if __name__ == "__main__":
    unittest.main()
