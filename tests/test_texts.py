"""Point 82: WORKS, WISHES and PLANS written as texts."""

import unittest

from benchdays.readings import read_plan, read_works
from benchdays.texts import shown_plan, shown_works
from tests.helper import Case, Drawn

MOST = 10 ** 12 - 1


class ShownWorks(Case):

    def test_each_cost(self):
        rows = [(("late", -3), "late:-3"), (("tardy", 5, 2), "tardy:5:2"), (("miss", 5, 9), "miss:5:9"),
                (("ends", 4), "ends:4"), (("steps", ((-1, 0), (4, 7))), "steps:-1=0,4=7"), (("steps", ((0, 0),)), "steps:0=0"),
                (("late", 0), "late:0"), (("tardy", -99, 0), "tardy:-99:0"), (("ends", 0), "ends:0"),
                (("late", -MOST), "late:-999999999999"), (("miss", MOST, MOST), "miss:999999999999:999999999999")]
        for cost, text in rows:
            self.same(shown_works(((2, 0, cost),), ()), ["2 0 " + text, "wishes"])
            self.same(shown_works(((20, 60, cost), (1, 0, cost)), ((1, 0),)), ["20 60 " + text, "1 0 " + text, "wishes 1<0"])

    def test_wishes_in_their_order(self):
        works = ((1, 2, ("late", 3)),) * 3
        self.same(shown_works(works, ((0, 2), (1, 2)))[-1], "wishes 0<2 1<2")
        self.same(shown_works(works, ((0, 1), (0, 2), (2, 1)))[-1], "wishes 0<1 0<2 2<1")
        self.same(shown_works(works, ()), ["1 2 late:3", "1 2 late:3", "1 2 late:3", "wishes"])

    def test_new_at_each_call(self):
        works = ((1, 2, ("late", 3)),)
        told = shown_works(works, ())
        told.append("more")
        self.same(shown_works(works, ()), ["1 2 late:3", "wishes"])

    def test_nineteen_works(self):
        works = tuple((k + 1, k, ("ends", k)) for k in range(19))
        told = shown_works(works, ((0, 18), (17, 10)))
        self.same(len(told), 20)
        self.same(told[-2:], ["19 18 ends:18", "wishes 0<18 17<10"])

    def test_what_is_written_is_read_as_the_same(self):
        for seed in range(200):
            drawn = Drawn(seed, length=(20, MOST)[seed % 2], coming=(60, MOST)[seed % 2], least=(-99, -MOST)[seed % 2],
                          most=(400, MOST)[seed % 2], weight=(9, MOST)[seed % 2])
            many = drawn.up_to(18) + 1
            works, wishes = drawn.works(many), drawn.wishes(many, 171)
            self.same(read_works(shown_works(works, wishes)), (works, wishes))


class ShownPlan(Case):

    def test_told(self):
        self.same(shown_plan(((0, 0, 3),)), "0:0:3")
        self.same(shown_plan(((2, 0, 3), (0, 3, 5), (2, 7, 8))), "2:0:3 0:3:5 2:7:8")
        self.same(shown_plan(((MOST, MOST - 1, MOST),)), "999999999999:999999999998:999999999999")
        self.same(shown_plan(((7, 1, 2), (7, 2, 3))), "7:1:2 7:2:3")

    def test_what_is_written_is_read_as_the_same(self):
        for seed in range(100):
            drawn = Drawn(seed)
            moments = sorted(drawn.source.sample(range((200, 10 ** 12)[seed % 2]), 80))
            plan = tuple((drawn.up_to(7), begin, end) for begin, end in zip(moments[::2], moments[1::2]))
            self.same(read_plan(shown_plan(plan)), plan)


if __name__ == "__main__":
    unittest.main()
