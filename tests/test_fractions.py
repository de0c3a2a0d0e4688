"""Point 10: FRACTIONS."""

import itertools
import unittest
from fractions import Fraction

from benchdays.fractions import fraction, is_fraction, less, minus, plus, times
from tests.helper import HUGE, Case

SMALL = [(top, bottom) for top in range(-6, 7) for bottom in range(1, 7) if is_fraction((top, bottom))]
LARGE = [(HUGE, 1), (-HUGE, 1), (HUGE, HUGE - 1), (1 - HUGE, HUGE), (1, HUGE), (-1, HUGE - 2), (10 ** 199, 10 ** 199 + 1)]


def as_tuple(value):
    return (value.numerator, value.denominator)


class IsFraction(Case):

    def test_right_ones(self):
        for thing in [(0, 1), (1, 1), (-1, 1), (1, 2), (-3, 2), (9, 4)] + LARGE:
            self.same(is_fraction(thing), True)

    def test_small_ones_by_their_divisors(self):
        for top, bottom in itertools.product(range(-12, 13), repeat=2):
            shared = [d for d in range(2, 13) if top % d == 0 and bottom % d == 0]
            self.same(is_fraction((top, bottom)), bottom >= 1 and not shared)

    def test_wrong_ones(self):
        wrong = [(0, 2), (2, 2), (1, 0), (0, 0), (1, -2), (0, -1), (2 * HUGE, 2), (HUGE, HUGE), (0, HUGE), (HUGE, 0)]
        wrong += [(True, 1), (1, True), (False, 1), (False, True), [1, 2], (1,), (1, 2, 3), (), ("1", 2), (1, "2"), 1]
        for thing in wrong:
            self.same(is_fraction(thing), False)

    def test_any_thing(self):
        self.tells_of_any_thing(is_fraction)
        self.no_spoiled(is_fraction, (3, 2))
        self.no_spoiled(is_fraction, (0, 1))


class Reckoning(Case):

    def test_fraction_on_both_sides_of_nought(self):
        self.same(fraction(6, 4), (3, 2))
        self.same(fraction(-6, 4), (-3, 2))
        self.same(fraction(6, -4), (-3, 2))
        self.same(fraction(-6, -4), (3, 2))
        self.same(fraction(0, 7), (0, 1))
        self.same(fraction(0, -7), (0, 1))
        for top, bottom in itertools.product(range(-12, 13), repeat=2):
            if bottom != 0:
                self.same(fraction(top, bottom), as_tuple(Fraction(top, bottom)))

    def test_fraction_of_two_hundred_figures(self):
        self.same(fraction(HUGE, -HUGE), (-1, 1))
        self.same(fraction(10 ** 199, 4 * 10 ** 199), (1, 4))
        for top, bottom in itertools.product([HUGE, -HUGE, 10 ** 199, 3 ** 400, 1, 0, -6 ** 250], repeat=2):
            if bottom != 0:
                self.same(fraction(top, bottom), as_tuple(Fraction(top, bottom)))

    def test_sum_difference_product_less(self):
        for one, other in itertools.product(SMALL + LARGE, repeat=2):
            first, second = Fraction(*one), Fraction(*other)
            self.same(plus(one, other), as_tuple(first + second))
            self.same(minus(one, other), as_tuple(first - second))
            self.same(times(one, other), as_tuple(first * second))
            self.same(less(one, other), first < second)

    def test_told_in_words(self):
        self.same(plus((1, 6), (1, 3)), (1, 2))
        self.same(plus((1, 2), (-1, 2)), (0, 1))
        self.same(minus((1, 6), (2, 3)), (-1, 2))
        self.same(times((-2, 3), (3, 4)), (-1, 2))
        self.same(times((0, 1), (-3, 4)), (0, 1))
        self.same(less((-1, 2), (-1, 3)), True)
        self.same(less((1, 2), (1, 2)), False)
        self.same(less((1, 2), (1, 3)), False)

    def test_what_is_told_may_be_handed_in_again(self):
        total = (0, 1)
        for k in range(1, 40):
            total = plus(total, times((1, HUGE + k), (k, 1)))
            self.same(is_fraction(total), True)


if __name__ == "__main__":
    unittest.main()
