"""What the tests share: any things, things spoiled in one place, and a case that tells True from 1."""

import copy
import itertools
import random
import unittest

HUGE = 10 ** 199 + 7

LATE = ("late", 5)
TARDY = ("tardy", 5, 3)
MISS = ("miss", 5, 4)
ENDS = ("ends", 2)
STEPS = ("steps", ((-1, 0), (4, 7), (6, 7), (9, 8)))
COSTS = (LATE, TARDY, MISS, ENDS, STEPS)
QUESTIONS = ("greatest", "sum")


def nested(depth, kind):
    thing = kind()
    for turn in range(depth - 1):
        thing = kind([thing])
    return thing


def any_things():
    """Things of every kind that any thing may be, new ones at each call."""
    return [
        True, False, None, 0, 1, -1, 2, 7, HUGE, -HUGE,
        "", "late", "(0, 1)", "x" * 4000, "0 1",
        (), [], ((),), ([],), [()], (None,), (True,), (False, True), (0,), (1,), (0, 1), [0, 1],
        (1, 1), (0, 2), (1, 0), (3, 2), (True, 1), (1, True), (0, True), ("0", "1"), (None, None),
        (0, 1, 2), (2, 1, 0), (0, 0), (0, -1), (-1, 2), (HUGE, 1), (1, HUGE), (HUGE, HUGE), (0, HUGE),
        ("late",), ("late", 5), ["late", 5], ("late", True), ("late", 5, 1), ("late", None), ("late", "5"),
        ("tardy", 5), ("tardy", 5, -1), ("tardy", 5, True), ("miss", False, 1), ("miss", 5, 4, 3),
        ("ends", -1), ("ends", True), ("ends",), ("steps",), ("steps", ()), ("steps", []), ("steps", 3),
        ("steps", ((0, 1), (0, 2))), ("steps", ((0, 2), (1, 1))), ("steps", ([0, 1],)), ("steps", [(0, 1)]),
        ("steps", ((0, 1, 2),)), ("steps", (None, (0, 1))), (("late",), 5), (["late"], 5), (True, 5), (0, ("late", 5)),
        (2, 0, ("late", 5)), [2, 0, ("late", 5)], (2, 0, ["late", 5]), (True, 0, ("late", 5)), (2, False, ("late", 5)),
        ((2, 0, ("late", 5)),), [(2, 0, ("late", 5))], ((2, 0, ("late", 5)), None), (0, 0, ("late", 5)),
        ((0, 1),), [(0, 1)], ([0, 1],), ((0, 1), (1, 0)), ((0, True),), ((False, 1),), ((0, 1), None), ((0, 1, 2),),
        ((0, HUGE),), ((-HUGE, 1),), ((0, 0, 2),), [(0, 0, 2)], ([0, 0, 2],), ((0, 0, 2), (1, 2, 3)),
        ((0, False, 2),), ((0, 0, True),), ((True, 0, 2),), ((HUGE, 0, 2),), ((0, HUGE, HUGE + 2),), ((0, 0, HUGE),),
        nested(20, tuple), nested(20, list), (nested(19, tuple), nested(19, list)), ((0, nested(18, list)),),
        tuple(range(5000)), list(range(5000)), (0,) * 5000, ((0, 1),) * 1600, (None,) * 4999, ((0, 0, 1),) * 1200,
    ]


def tuples_as_lists(thing):
    return [tuples_as_lists(each) for each in thing] if isinstance(thing, tuple) else thing


def spoiled_here(thing):
    """The thing's own place taken by what is of another kind than it."""
    put = [None, True, False, "x", "", [], nested(20, list), nested(20, tuple), ["x"]]
    if isinstance(thing, tuple):
        put += [list(thing), thing + (None,), thing + (True,), thing[:-1] + ([],), tuples_as_lists(thing)]
        put += [1, -HUGE]
    else:
        put += [(thing,), [thing]]
    return [copy.deepcopy(each) for each in put]


def spoiled(thing):
    """All that a right thing becomes as one place of it is taken by what can't stand there."""
    told = spoiled_here(thing)
    if isinstance(thing, tuple):
        for k, part in enumerate(thing):
            told += [thing[:k] + (bad,) + thing[k + 1:] for bad in spoiled(part)]
    return told


def sets_of(many):
    """All SETS of so many works."""
    return [some for size in range(many + 1) for some in itertools.combinations(range(many), size)]


def goes_round(many, pairs):
    """Whether the pairs go round: by walks as long as there are works, and one more."""
    walks = {(a, b) for a, b in pairs}
    ends = set(range(many))
    for turn in range(many + 1):
        ends = {b for a, b in walks if a in ends}
    return bool(ends)


def wishes_of(many):
    """All WISHES of so many works."""
    pairs = sorted(itertools.permutations(range(many), 2))
    rows = [row for size in range(len(pairs) + 1) for row in itertools.combinations(pairs, size)]
    return [row for row in rows if not goes_round(many, row)]


def leads(pairs, a, b):
    """Whether a row of one or more pairs leads from a to b."""
    return any(one == a and (other == b or leads([pair for pair in pairs if pair[0] != a], other, b))
               for one, other in pairs)


def moments_of(plan, work):
    """The moments from which on the work is done for a day each."""
    return [moment for j, begin, end in plan if j == work for moment in range(begin, end)]


def day_plans(works, wishes, last):
    """All PLANS that are done by the moment last, each in PIECES of one day."""
    told = []
    units = [j for j, work in enumerate(works) for day in range(work[0])]
    for moments in itertools.combinations(range(last), len(units)):
        for row in sorted(set(itertools.permutations(units))):
            plan = tuple((j, moment, moment + 1) for j, moment in zip(row, moments))
            done = [moments_of(plan, j) for j in range(len(works))]
            if (all(done[j][0] >= work[1] for j, work in enumerate(works))
                    and all(done[a][-1] < done[b][0] for a, b in wishes)):
                told.append(plan)
    return told


def joined_up(plan):
    """The same days with PIECES as long as can be."""
    pieces = []
    for j, begin, end in plan:
        if pieces and pieces[-1][0] == j and pieces[-1][2] == begin:
            begin = pieces.pop()[1]
        pieces.append((j, begin, end))
    return tuple(pieces)


WORDS = ("late", "tardy", "miss", "ends", "steps")


class Drawn:
    """Works and wishes drawn alike at each run, up to the greatest bounds that the document tells."""

    def __init__(self, seed, length=20, coming=60, least=-99, most=400, weight=9):
        self.source = random.Random(seed)
        self.length, self.coming, self.least, self.most, self.weight = length, coming, least, most, weight

    def up_to(self, most):
        return self.source.randint(0, most)

    def due(self):
        return self.source.randint(self.least, self.most)

    def cost(self, words=WORDS):
        word = self.source.choice(words)
        if word == "late":
            return (word, self.due())
        if word == "ends":
            return (word, self.up_to(self.weight))
        if word == "steps":
            begins = sorted({self.due() for row in range(5)})
            return (word, tuple(zip(begins, sorted(self.up_to(99) for begin in begins))))
        return (word, self.due(), self.up_to(self.weight))

    def works(self, many, words=WORDS, alike=False):
        coming = self.up_to(self.coming)
        return tuple((self.source.randint(1, self.length), coming if alike else self.up_to(self.coming), self.cost(words))
                     for k in range(many))

    def row(self, many):
        return self.source.sample(range(many), many)

    def wishes(self, many, most=16):
        pairs = list(itertools.combinations(self.row(many), 2))
        return tuple(sorted(self.source.sample(pairs, min(len(pairs), self.up_to(most)))))

    def forest(self, many):
        row = self.row(many)
        return tuple(sorted((self.source.choice(row[:k]), row[k]) for k in range(1, many) if self.up_to(3)))


def orders_of(many, wishes):
    """All ORDERS of so many works with the WISHES."""
    return [row for row in itertools.permutations(range(many)) if all(row.index(a) < row.index(b) for a, b in wishes)]


def renamed(works, wishes, row):
    """The same works and wishes, number row[j] the one that was number j."""
    turned = dict((row[j], work) for j, work in enumerate(works))
    return (tuple(turned[j] for j in range(len(works))), tuple(sorted((row[a], row[b]) for a, b in wishes)))


def cost_at_told(cost, t):
    """What a COST tells at t, as the document tells it."""
    if cost[0] == "late":
        return t - cost[1]
    if cost[0] == "tardy":
        return cost[2] * max(0, t - cost[1])
    if cost[0] == "miss":
        return cost[2] if t > cost[1] else 0
    if cost[0] == "ends":
        return cost[1] * t
    return ([0] + [amount for begin, amount in cost[1] if begin <= t])[-1]


def costs_told(works, order):
    """What each work of an order costs, in the order, done whole as early as can be."""
    told = []
    end = 0
    for j in order:
        end = max(end, works[j][1]) + works[j][0]
        told.append(cost_at_told(works[j][2], end))
    return told


def cost_told(works, order, question):
    """What an order costs by a QUESTION, as the document tells it."""
    return (sum if question == "sum" else max)(costs_told(works, order))


def last_ones_told(wishes, some):
    return [u for u in some if not any(leads(wishes, u, other) for other in some)]


def small_late_works():
    """LATE WORKS of three, with all that their dues may be to one another."""
    for lengths in itertools.product((1, 2), repeat=3):
        for dues in ((1, 2, 3), (3, 1, 2), (2, 2, 2), (4, 4, 1), (-1, 6, 3), (5, 3, 3)):
            for weights in ((1, 1, 1), (2, 0, 1), (0, 0, 0), (1, 2, 3)):
                yield tuple((length, 1, ("miss", due, weight)) for length, due, weight in zip(lengths, dues, weights))


def in_time_told(works, some):
    """Whether a SET of LATE WORKS CAN BE IN TIME, as the document tells it."""
    end = works[0][1]
    for due, j in sorted((works[j][2][1], j) for j in some):
        end += works[j][0]
        if end > due:
            return False
    return True


def no_more_told(one, other):
    return other is None or (one is not None and one <= other)


def table_shape_told(works, thing):
    """The path of the first fault in the shape of a TABLE, as the document tells it; None where there is none."""
    many = sum(work[2][2] for work in works) + 1
    if thing.__class__ is not tuple or len(thing) != len(works) + 1:
        return ()
    for k in range(len(thing)):
        if thing[k].__class__ is not tuple or len(thing[k]) != many:
            return (k,)
        for w in range(many):
            if thing[k][w] is not None and thing[k][w].__class__ is not int:
                return (k, w)
    return None


def table_place_told(works, table):
    """The first entry that isn't in its place, as (path, word), as the document tells it; None where all are."""
    if not no_more_told(table[0][0], works[0][1]):
        return ((0, 0), "begin")
    row = [j for due, j in sorted((work[2][1], j) for j, work in enumerate(works))]
    for k in range(1, len(table)):
        length, coming, (word, due, weight) = works[row[k - 1]]
        for w in range(len(table[k])):
            if not no_more_told(table[k][w], table[k - 1][w]):
                return ((k, w), "kept")
            if w >= weight and table[k - 1][w - weight] is not None:
                both = table[k - 1][w - weight] + length
                if both <= due and not no_more_told(table[k][w], both):
                    return ((k, w), "more")
    return None


def with_entry(table, k, w, entry):
    """The TABLE with another entry w in its row k."""
    row = table[k][:w] + (entry,) + table[k][w + 1:]
    return table[:k] + (row,) + table[k + 1:]


class Case(unittest.TestCase):
    """Tests whose things are compared with their kinds: True is no 1, a list no tuple."""

    def same(self, told, wanted):
        self.assertEqual(repr(told), repr(wanted))

    def refused(self, error, fields, action, *things):
        """The action refuses the things with the error, its fields as told."""
        with self.assertRaises(error) as caught:
            action(*things)
        self.same({name: getattr(caught.exception, name) for name in fields}, fields)

    def tells_of_any_thing(self, action):
        """Of any thing the action tells a truth, and leaves the thing as it was."""
        for thing in any_things():
            kept = copy.deepcopy(thing)
            self.assertIn(repr(action(thing)), ("True", "False"))
            self.same(thing, kept)

    def no_spoiled(self, action, thing):
        """The action tells True of the thing, and False of all that it becomes spoiled."""
        self.same(action(thing), True)
        for bad in spoiled(thing):
            kept = copy.deepcopy(bad)
            self.assertIs(action(bad), False, bad)
            self.same(bad, kept)
