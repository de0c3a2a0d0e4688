"""Points 87 and 88: a desk, and the rows that it answers."""

import re
import unittest

from benchdays.bench import Bench
from benchdays.desk import Desk
from benchdays.errors import BenchError, NoBack, NoRow, NoRule, NoWish, NoWork, TooMany
from benchdays.readings import read_works
from benchdays.texts import shown_works
from tests.helper import QUESTIONS, Case, Drawn

NAME = "[a-z0-9]{1,8}"
NUMBER = "(0|-?[1-9][0-9]{0,11})"
COST = f"(late:{NUMBER}|(tardy|miss):{NUMBER}:{NUMBER}|ends:{NUMBER}|steps:{NUMBER}={NUMBER}(,{NUMBER}={NUMBER})*)"
QUESTION = "(greatest|sum)"
ROWS = (f"put {NAME} {NUMBER} {NUMBER} {COST}( after( {NAME})+)?", f"(wish|unwish) {NAME} {NAME}", f"(take|work) {NAME}",
        "back", "names", "wishes", "plan", f"(best|many) {QUESTION}", f"later {NAME} ([0-9]|1[0-2]) {QUESTION}")


def is_bound_told(length, coming, cost):
    """Whether a WORK is within the bounds of point 5."""
    if length > 20 or coming > 60:
        return False
    if cost[0] == "steps":
        return len(cost[1]) <= 5 and all(-99 <= begin <= 400 and amount <= 99 for begin, amount in cost[1])
    if cost[0] == "ends":
        return cost[1] <= 9
    return -99 <= cost[1] <= 400 and (cost[0] == "late" or cost[2] <= 9)


def is_row_told(row):
    """Whether a text is a row that a desk knows, as the document tells it."""
    if not any(re.fullmatch(each, row) for each in ROWS):
        return False
    words = row.split(" ")
    if words[0] != "put":
        return True
    try:
        works, wishes = read_works([" ".join(words[2:5]), "wishes"])
    except BenchError:
        return False
    return is_bound_told(*works[0])


def several(things):
    return " ".join(str(thing) for thing in things) or "-"


def answer_told(bench, row):
    """What a row is answered, by a bench of one's own."""
    words = row.split(" ")
    if words[0] == "put":
        works, wishes = read_works([" ".join(words[2:5]), "wishes"])
        return str(bench.put(words[1], works[0], tuple(words[6:])))
    if words[0] in ("wish", "unwish", "take", "many"):
        return str(getattr(bench, words[0])(*words[1:]))
    if words[0] in ("back", "names"):
        return several(getattr(bench, words[0])())
    if words[0] == "work":
        if words[1] not in bench.names():
            raise NoWork(words[1])
        return shown_works(bench.works(), ())[bench.names().index(words[1])]
    if words[0] == "wishes":
        return several(f"{bench.names()[a]}<{bench.names()[b]}" for a, b in bench.wishes())
    if words[0] == "best":
        names, cost = bench.best(words[1])
        return several((cost,) + names)
    if words[0] == "plan":
        pieces, cost = bench.plan()
        return several((cost,) + tuple(f"{name}:{begin}:{end}" for name, begin, end in pieces))
    return several(bench.later(words[1], int(words[2]), words[3]))


def drawn_row(drawn):
    """A row drawn, now and then changed in one place."""
    choice = drawn.source.choice
    names = ("a", "b", "c", "d", "e", "f", "g7", "after", "longname")
    work = shown_works(drawn.works(1), ())[0]
    if not drawn.up_to(9):
        # Bounds that are just gone beyond.
        work = choice(("21 0 late:1", "20 61 late:1", "20 60 late:401", "1 0 late:-100", "1 0 ends:10", "1 0 miss:1:10",
                       "1 0 tardy:401:1", "1 0 steps:-100=1", "1 0 steps:0=100", "1 0 steps:0=0,1=1,2=2,3=3,4=4,5=5"))
    after = choice(("", "", " after " + choice(names), " after " + choice(names) + " " + choice(names), " after"))
    row = choice([f"put {choice(names)} {work}{after}"] * 9 + [f"wish {choice(names)} {choice(names)}"] * 4
                 + [f"unwish {choice(names)} {choice(names)}", f"take {choice(names)}", "back", "names", "wishes", "plan",
                    f"work {choice(names)}", f"best {choice(QUESTIONS)}", f"many {choice(QUESTIONS)}",
                    f"later {choice(names)} {drawn.up_to(13)} {choice(QUESTIONS)}"])
    if drawn.up_to(4):
        return row
    k = drawn.up_to(len(row))
    return row[:k] + choice(("", " ", "a", "0", "-", ":")) + row[k + drawn.up_to(1):]


class Says(Case):

    def answers(self, desk, rows):
        for row, text in rows:
            self.same(desk.say(row), text)

    def no(self, desk, row):
        self.refused(NoRow, {"row": row}, desk.say, row)

    def test_told(self):
        desk = Desk()
        self.answers(desk, (
            ("names", "-"), ("wishes", "-"), ("put b 2 0 late:9", "0"), ("put a 3 0 late:1", "1"),
            ("put c 1 0 late:3", "2"), ("names", "b a c"), ("wishes", "-"), ("work a", "3 0 late:1"),
            ("best greatest", "2 a c b"), ("best sum", "-3 c b a"), ("many sum", "1"),
            ("later a 3 greatest", "2 1 1 0"), ("later a 0 sum", "-3"), ("wish b a", "1"), ("wishes", "b<a"),
            ("best greatest", "4 b a c"), ("back", "wish b a"), ("wish c b", "1"), ("wish c a", "2"),
            ("wishes", "c<b c<a"), ("unwish c b", "1"), ("back", "unwish c b"), ("take c", "2"), ("wishes", "-"),
            ("back", "take c"), ("wishes", "c<b c<a"), ("put d 4 7 steps:-1=0,4=7 after b a", "3"), ("wishes", "b<d a<d c<b c<a"),
            ("work d", "4 7 steps:-1=0,4=7"), ("back", "put d"), ("take a", "2"), ("take b", "1"), ("take c", "0"),
            ("names", "-")))

    def test_plan(self):
        desk = Desk()
        self.answers(desk, (("put a 3 0 late:5", "0"), ("put b 2 0 late:7", "1"), ("wish a b", "1"), ("plan", "-2 a:0:3 b:3:5")))

    def test_each_cost(self):
        desk = Desk()
        for k, work in enumerate(("20 60 late:-99", "1 0 late:400", "1 0 tardy:-99:9", "1 0 miss:400:0", "1 0 ends:9",
                                  "1 0 steps:-99=0,0=0,1=1,2=98,400=99")):
            self.answers(desk, ((f"put n{k} {work}", str(k)), (f"work n{k}", work)))

    def test_work_beyond_the_bounds_is_none(self):
        desk = Desk()
        for work in ("21 0 late:5", "1 61 late:5", "1 0 late:401", "1 0 late:-100", "1 0 tardy:401:1", "1 0 tardy:-100:1",
                     "1 0 tardy:1:10", "1 0 miss:401:1", "1 0 miss:-100:1", "1 0 miss:1:10", "1 0 ends:10", "1 0 steps:401=1",
                     "1 0 steps:-100=1", "1 0 steps:0=100", "1 0 steps:0=0,1=1,2=2,3=3,4=4,5=5", "0 0 late:5", "1 -1 late:5",
                     "01 0 late:5", "1 0 ends:-1", "1 0 steps:1=1,0=2", "1 0", "1", "1 0 late", "1 0 late:5 x", "1 0 late:5 ",
                     "1 0  late:5", "", " ", "a 0 late:5", "1 0 late:999999999999", "1 0 after a"):
            self.no(desk, f"put a {work}")
            self.no(desk, f"put a {work} after a")
        self.same(desk.say("names"), "-")

    def test_no_such_rows(self):
        desk = Desk()
        desk.say("put a 1 0 late:5")
        desk.say("put b 1 0 late:5")
        for row in ("", " ", "put", "put a", "PUT c 1 0 late:5", "put c 1 0 late:5 after", "put c 1 0 late:5 after -",
                    "put c 1 0 late:5 after a ", "put c 1 0 late:5 after  a", "put c 1 0 late:5 behind a", "put c 1 0 late:5 a",
                    "put C 1 0 late:5", "put - 1 0 late:5", "put ninesigns 1 0 late:5", "put c 1 0 late:5 after A", "put  1 0 late:5",
                    "wish", "wish a", "wish a b a", "wish a  b", "wish a b ", "wish a -", "wish a a<b", "unwish", "unwish a", "unwish a b c",
                    "take", "take a b", "take A", "take ", "take ninesigns", "back a", "back ", " back", "names a", "names ", "wishes a",
                    "work", "work a b", "work -", "best", "best least", "best sum sum", "best Sum", "best sum ", "plan a", "plan sum",
                    "many", "many a", "many sum greatest", "later", "later a", "later a 3", "later a 13 sum", "later a -1 sum",
                    "later a 03 sum", "later a +3 sum", "later a x sum", "later a  sum", "later a 3 least", "later a 3 sum a",
                    "later A 3 sum", "later a -0 sum", "later 3 a sum", "unknown", "a", "0", "-", "put,a,1,0,late:5", "x" * 4000, " " * 4000):
            self.assertFalse(is_row_told(row), row)
            self.no(desk, row)
        self.same(desk.say("names"), "a b")
        self.same(desk.say("back"), "put b")

    def test_no_row_goes_ahead_of_all_else(self):
        desk = Desk()
        for row in ("best least", "later x 13 sum", "back now", "take x y", "put a 99 0 late:5 after x"):
            self.no(desk, row)
        for k in range(8):
            desk.say(f"put n{k} 1 0 late:5")
        self.no(desk, "put n0 21 0 late:5")
        self.refused(TooMany, {"word": "works"}, desk.say, "put n0 20 0 late:5")

    def test_as_the_bench_refuses(self):
        desk = Desk()
        for row in ("best sum", "best greatest", "plan", "many sum", "later x 3 sum"):
            self.refused(NoRule, {"word": "none"}, desk.say, row)
        self.refused(NoBack, {}, desk.say, "back")
        for row in ("work x", "take x", "wish x y", "unwish x y", "put y 1 0 late:5 after x"):
            self.refused(NoWork, {"name": "x"}, desk.say, row)
        desk.say("put a 1 0 late:5")
        desk.say("put b 1 1 ends:5 after a")
        self.refused(NoWork, {"name": "a"}, desk.say, "put a 1 0 late:5")
        self.refused(NoWork, {"name": "c"}, desk.say, "put c 1 0 late:5 after c")
        self.refused(NoWork, {"name": "x"}, desk.say, "later x 3 sum")
        self.refused(NoWish, {"word": "twice"}, desk.say, "put c 1 0 late:5 after a a")
        self.refused(NoWish, {"word": "twice"}, desk.say, "wish a b")
        self.refused(NoWish, {"word": "ring"}, desk.say, "wish b a")
        self.refused(NoWish, {"word": "none"}, desk.say, "unwish b a")
        self.refused(NoRule, {"word": "coming"}, desk.say, "many sum")
        self.refused(NoRule, {"word": "due"}, desk.say, "later b 3 sum")
        self.answers(desk, (("names", "a b"), ("wishes", "a<b"), ("back", "put b"), ("back", "put a")))
        self.refused(NoBack, {}, desk.say, "back")

    def test_names_that_are_words_of_rows(self):
        desk = Desk()
        self.answers(desk, (("put after 1 0 late:5", "0"), ("put put 1 0 late:5 after after", "1"), ("put greatest 1 0 ends:1", "2"),
                            ("wish greatest after", "2"), ("wishes", "after<put greatest<after"), ("back", "wish greatest after"),
                            ("later after 1 greatest", "1 1"), ("take put", "2"), ("names", "after greatest")))

    def test_asking_leaves_the_bench_as_it_is(self):
        desk = Desk()
        self.answers(desk, (("put a 3 0 late:5", "0"), ("put b 2 0 late:7", "1"), ("wish a b", "1")))
        for row in ("best sum", "best greatest", "plan", "many sum", "later a 12 sum", "names", "wishes", "work a"):
            self.same(desk.say(row), desk.say(row))
        self.answers(desk, (("names", "a b"), ("wishes", "a<b"), ("back", "wish a b")))

    def test_two_desks_know_nothing_of_one_another(self):
        one, other = Desk(), Desk()
        one.say("put a 1 0 late:5")
        self.same(other.say("names"), "-")
        other.say("put b 1 0 late:5")
        self.answers(one, (("names", "a"), ("back", "put a"), ("names", "-")))
        self.same(other.say("names"), "b")

    def test_drawn_rows(self):
        told, refused = 0, set()
        for seed in range(150):
            drawn = Drawn(seed, most=(400, 60)[seed % 2], coming=(60, 0)[seed // 2 % 2])
            desk, bench = Desk(), Bench()
            for turn in range(60):
                row = drawn_row(drawn)
                if not is_row_told(row):
                    self.no(desk, row)
                    continue
                try:
                    wanted = answer_told(bench, row)
                except BenchError as refusal:
                    refused.add(refusal.__class__)
                    self.refused(refusal.__class__, vars(refusal), desk.say, row)
                else:
                    told += 1
                    self.same(desk.say(row), wanted)
        self.assertLessEqual({TooMany, NoRule, NoWork, NoWish, NoBack}, refused)
        self.assertGreater(told, 1500)


if __name__ == "__main__":
    unittest.main()
