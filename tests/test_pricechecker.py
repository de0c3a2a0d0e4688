"""Points 57 to 59: GAINS, and what PRICES SHOW."""

import copy
import itertools
import unittest
from fractions import Fraction

from benchdays.asking import worth
from benchdays.errors import NoPaper, NoRule
from benchdays.fractions import is_fraction, less, plus
from benchdays.orders import run
from benchdays.plans import ends_of
from benchdays.pricechecker import gain, priced
from benchdays.ratios import pair_sum
from benchdays.wishes import behind
from tests.helper import COSTS, ENDS, HUGE, Case, Drawn, any_things, leads, orders_of, sets_of, spoiled, wishes_of

MILLION = 10 ** 6
WORKS = ((4, 3, ("ends", 2)), (2, 3, ("ends", 1)), (1, 3, ("ends", 5)), (3, 3, ("ends", 0)))
WISHES = ((0, 1), (1, 2), (3, 2))
PRICES = ((0, (1, 2), (1, 3)), (1, (2,), (4, 1)), (1, (2,), (4, 1)), (3, (), (7, 2)))


def gain_told(works, some):
    pairs = itertools.combinations_with_replacement(some, 2)
    return sum(works[i][0] * works[j][0] for i, j in pairs)


def shown_told(works, prices):
    """What PRICES SHOW, as the document tells it."""
    weights = [Fraction(work[2][1]) for work in works]
    told = Fraction(0)
    for a, some, (top, bottom) in prices:
        told += Fraction(top, bottom) * gain_told(works, some)
        weights[a] += Fraction(top, bottom) * sum(works[b][0] for b in some)
        for b in some:
            weights[b] -= Fraction(top, bottom) * works[b][0]
    told += sum(weight * (work[0] + work[1]) for work, weight in zip(works, weights))
    for i, j in itertools.combinations(range(len(works)), 2):
        told += min(works[i][0] * weights[j], works[j][0] * weights[i])
    return (told.numerator, told.denominator)


def is_set_told(works, thing):
    return thing.__class__ is tuple and repr(thing) in [repr(some) for some in sets_of(len(works))]


def is_price_told(thing):
    if thing.__class__ is not tuple or [part.__class__ for part in thing] != [int, int] or thing[1] < 1:
        return False
    return thing[0] >= 0 and Fraction(*thing).denominator == thing[1]


def fault_told(works, wishes, thing):
    """The first fault, as (path, word), as the document tells it; None where there is none."""
    if thing.__class__ is not tuple or any(entry.__class__ is not tuple or len(entry) != 3 for entry in thing):
        return ((), "shape")
    for k, (a, some, price) in enumerate(thing):
        if a.__class__ is not int or a not in range(len(works)):
            return ((k,), "work")
        if not is_set_told(works, some):
            return ((k,), "set")
        if not all(leads(wishes, a, b) for b in some):
            return ((k,), "behind")
        if not is_price_told(price):
            return ((k,), "price")
    return None


def least_cost(works, wishes):
    return min(worth(works, ends_of(works, run(works, order)), "sum") for order in orders_of(len(works), wishes))


class Gain(Case):

    def test_told(self):
        self.same(gain(WORKS, ()), 0)
        self.same(gain(WORKS, (0,)), 16)
        self.same(gain(WORKS, (1, 3)), 4 + 9 + 6)
        self.same(gain(WORKS, (0, 1, 2, 3)), 16 + 4 + 1 + 9 + 8 + 4 + 12 + 2 + 6 + 3)

    def test_whatever_comings_and_costs(self):
        works = tuple((k + 2, 7 * k, cost) for k, cost in enumerate(COSTS))
        for some in sets_of(5):
            self.same(gain(works, some), gain_told(works, some))

    def test_at_the_greatest_bounds(self):
        self.same(gain(((20, 60, ENDS),) * 8, tuple(range(8))), 36 * 400)
        self.same(gain(((MILLION, 60, ENDS),) * 8, tuple(range(8))), 36 * MILLION ** 2)

    def test_no_less_is_paid_for_what_goes_behind(self):
        for order in itertools.permutations(range(4)):
            ends = ends_of(WORKS, run(WORKS, order))
            for a in range(4):
                for some in sets_of(4):
                    places = [order.index(b) - order.index(a) for b in some]
                    if all(place > 0 for place in places):
                        paid = sum(WORKS[b][0] * (ends[b] - ends[a]) for b in some)
                        self.assertGreaterEqual(paid, gain(WORKS, some))
                        if sorted(places) == list(range(1, len(some) + 1)):
                            self.assertEqual(paid, gain(WORKS, some))


class Priced(Case):

    def no(self, path, word, thing, wishes=WISHES, works=WORKS):
        self.refused(NoPaper, {"path": path, "word": word}, priced, works, wishes, thing)

    def looked_at(self, works, wishes, thing):
        """Told or refused is what the document tells; whether the thing is PRICES."""
        kept = copy.deepcopy(thing)
        fault = fault_told(works, wishes, thing)
        if fault is None:
            self.same(priced(works, wishes, thing), shown_told(works, thing))
        else:
            self.no(fault[0], fault[1], thing, wishes, works)
        self.same(thing, kept)
        return fault is None

    def test_none_show_the_pair_sum(self):
        for wishes in ((), WISHES):
            self.same(priced(WORKS, wishes, ()), (pair_sum(WORKS), 1))

    def test_told(self):
        works = ((1, 0, ("ends", 0)), (1, 0, ("ends", 2)))
        self.same(priced(works, ((0, 1),), ()), (2, 1))
        self.same(priced(works, ((0, 1),), ((0, (1,), (1, 1)),)), (4, 1))
        self.same(priced(works, ((0, 1),), ((0, (1,), (1, 2)),)), (3, 1))
        self.same(priced(works, ((0, 1),), ((0, (1,), (1, 3)), (0, (1,), (1, 3)))), (10, 3))
        self.same(priced(works, ((0, 1),), ((0, (1,), (9, 2)),)), (4, 1))
        self.same(priced(works, ((0, 1),), ((0, (), (1, 3)), (1, (), (1, 1)))), (2, 1))

    def test_prices_too_high_show_less(self):
        works = ((1, 0, ("ends", 0)), (1, 0, ("ends", 2)), (1, 0, ("ends", 1)))
        for price, shown in (((1, 1), (7, 1)), ((3, 1), (5, 1)), ((9, 2), (7, 2)), ((9, 1), (-1, 1))):
            self.same(priced(works, ((0, 1),), ((0, (1,), price),)), shown)

    def test_some_prices(self):
        self.assertTrue(self.looked_at(WORKS, WISHES, PRICES))
        for size in range(5):
            for some in itertools.combinations(PRICES, size):
                self.assertTrue(self.looked_at(WORKS, WISHES, some))
                self.assertTrue(self.looked_at(WORKS, WISHES, some + some))

    def test_shape(self):
        for thing in (None, True, 0, "", [], list(PRICES), ((),), (None,), PRICES + (None,), PRICES + ((0, (), (0, 1), 0),),
                      PRICES + ((0, ()),), PRICES + ([0, (), (0, 1)],), ((9, 9, 9), 9), ((9, 9, 9), [])):
            self.no((), "shape", thing)

    def test_each_word(self):
        for k in range(3):
            for a in (-1, 4, True, False, None, "0", (0,), HUGE, [0]):
                self.no((k,), "work", PRICES[:k] + ((a, (), (0, 1)),) + PRICES[k:])
            for some in ((2, 1), (1, 1), (4,), (-1,), [1], None, (True,), ((1,),), 1, (1, 2, 9), (1, None)):
                self.no((k,), "set", PRICES[:k] + ((0, some, (0, 1)),) + PRICES[k:])
            for a, some in ((0, (0,)), (0, (3,)), (0, (1, 3)), (2, (1,)), (1, (1, 2)), (2, (0,)), (3, (1, 2))):
                self.no((k,), "behind", PRICES[:k] + ((a, some, (0, 1)),) + PRICES[k:])
            for price in ((-1, 1), (2, 2), (0, 2), (1, 0), (1, -1), (True, 1), (1, True), [1, 1], None, 1, (1,), (1, 1, 1)):
                self.no((k,), "price", PRICES[:k] + ((0, (1,), price),) + PRICES[k:])

    def test_of_two_faults_the_first_goes(self):
        self.no((0,), "work", ((9, (9,), 9), (True, (), (0, 1))))
        self.no((0,), "set", ((0, (9,), 9), (9, (), (0, 1))))
        self.no((0,), "behind", ((0, (3,), 9), (9, (), (0, 1))))
        self.no((0,), "price", ((0, (1,), 9), (9, (), (0, 1))))
        self.no((1,), "work", ((0, (1,), (9, 1)), (9, (), (0, 1))))
        self.no((), "shape", ((9, (9,), 9), (0, ())))

    def test_behind_goes_through_other_works(self):
        self.same(priced(WORKS, WISHES, ((0, (2,), (1, 1)),)), shown_told(WORKS, ((0, (2,), (1, 1)),)))
        self.no((0,), "behind", ((0, (2,), (1, 1)),), ((1, 2), (3, 2)))

    def test_any_thing(self):
        for thing in any_things() + spoiled(PRICES[:2]):
            self.looked_at(WORKS, WISHES, thing)
            self.looked_at(WORKS, WISHES, PRICES[:1] + (thing,))
        for thing in any_things():
            for entry in ((thing, (1,), (1, 1)), (0, thing, (1, 1)), (0, (1,), thing)):
                self.looked_at(WORKS, WISHES, (entry,))

    def test_numbers_of_any_size(self):
        prices = tuple((0, (1, 2), (HUGE + k, 10 ** 99 + 2 * k + 1)) for k in range(10))
        prices = tuple(entry for entry in prices if is_fraction(entry[2]))
        self.assertGreater(len(prices), 5)
        self.assertTrue(self.looked_at(WORKS, WISHES, prices))
        self.assertTrue(self.looked_at(WORKS, WISHES, ((1, (2,), (HUGE, 1)), (0, (1,), (1, HUGE)))))
        self.assertTrue(self.looked_at(WORKS, WISHES, tuple((k % 2, (2,), (1, k % 90 + 1)) for k in range(700))))
        self.no((0,), "price", ((0, (1,), (2 * HUGE, 2)),))
        self.no((0,), "price", ((0, (1,), (-HUGE, 1)),))

    def test_whoever_wrote_them_no_order_costs_less(self):
        drawn = Drawn(5)
        for wishes in wishes_of(4)[::3]:
            least = least_cost(WORKS, wishes)
            for turn in range(4):
                prices = self.draw_prices(drawn, wishes, 4)
                self.assertTrue(self.looked_at(WORKS, wishes, prices))
                self.assertFalse(less((least, 1), priced(WORKS, wishes, prices)))

    def draw_prices(self, drawn, wishes, many):
        prices = []
        for turn in range(drawn.up_to(4)):
            a = drawn.up_to(many - 1)
            some = tuple(b for b in behind(many, wishes, a) if drawn.up_to(2))
            price = Fraction(drawn.up_to(6), drawn.up_to(8) + 1)
            prices.append((a, some, (price.numerator, price.denominator)))
        return tuple(prices)

    def test_eight_works_at_the_greatest_bounds(self):
        for seed in range(60):
            drawn = Drawn(seed, length=(20, MILLION)[seed % 2], weight=(9, MILLION)[seed % 2])
            works, wishes = drawn.works(8, ("ends",), alike=True), drawn.wishes(8)
            self.assertTrue(self.looked_at(works, wishes, self.draw_prices(drawn, wishes, 8)))

    def test_what_is_shown_is_handed_in_again(self):
        self.same(plus(priced(WORKS, WISHES, ()), (0, 1)), (pair_sum(WORKS), 1))

    def test_refused_ahead_of_the_paper(self):
        for thing in (None, PRICES, ()):
            for cost in COSTS:
                self.refused(NoRule, {"word": "coming"}, priced, ((2, 0, cost), (1, 1, ENDS)), (), thing)
                if cost != ENDS:
                    self.refused(NoRule, {"word": "ends"}, priced, ((2, 0, cost),), (), thing)
                    self.refused(NoRule, {"word": "ends"}, priced, ((2, 1, ENDS), (1, 1, cost)), ((0, 1),), thing)


if __name__ == "__main__":
    unittest.main()
