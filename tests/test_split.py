"""split: 0, then the two things nearest to a half, and how likely the lesser is ahead, a fraction."""

import math
import unittest
from fractions import Fraction
from itertools import combinations, permutations

from likelyorders.chances import ahead, likely, split
from tests.trial import (
    IN_ONE_ROW,
    NONE_THERE,
    has_ring,
    must_be_ahead,
    nearest_by_trial,
    ordinary_orders,
    pairs_of,
    ringless_orders,
    small_orders,
    told,
)

HALF = Fraction(1, 2)


def more_orders():
    """(n, o) for the ordinary orders and for more of five and six things, many with nothing at a half."""
    yield from ordinary_orders()
    for n, step in ((5, 7), (6, 301)):
        for o in ringless_orders(n, step):
            yield n, o


def turned(o):
    """The order in which all that must come ahead must come behind."""
    return told([(other, one) for one, other in pairs_of(o)])


def nearest_by_likely(n, o):
    """What split is to answer, by what ahead and likely answer of every two."""
    best = NONE_THERE
    least = HALF
    for lesser, greater in combinations(range(n), 2):
        if lesser in ahead(n, greater, o)[1:] or greater in ahead(n, lesser, o)[1:]:
            continue
        zero, above, below = likely(n, lesser, greater, o)
        if abs(Fraction(above, below) - HALF) < least:
            best = [0, lesser, greater, above, below]
            least = abs(Fraction(above, below) - HALF)
    return best


class OrdinaryOrders(unittest.TestCase):
    def test_at_a_half(self):
        self.assertEqual(split(3, [0, 1, 0, 2]), [0, 1, 2, 1, 2])
        self.assertEqual(split(4, [0, 1]), [0, 2, 3, 1, 2])
        self.assertEqual(split(4, [0, 1, 1, 2]), [0, 1, 3, 1, 2])
        self.assertEqual(split(6, [0, 1, 1, 2, 3, 4, 4, 5]), [0, 0, 3, 1, 2])

    def test_nearest_lies_below_a_half(self):
        self.assertEqual(split(3, [2, 0]), [0, 0, 1, 1, 3])
        self.assertEqual(split(4, [0, 1, 2, 1, 2, 3]), [0, 0, 2, 2, 5])
        self.assertEqual(split(5, [1, 2, 0, 2, 0, 4, 0, 1, 3, 4]), [0, 2, 4, 4, 9])
        self.assertEqual(split(6, [1, 2, 5, 4, 5, 1, 0, 2, 3, 2, 3, 4, 3, 5]), [0, 0, 5, 3, 7])

    def test_nearest_lies_above_a_half(self):
        self.assertEqual(split(3, [0, 2]), [0, 0, 1, 2, 3])
        self.assertEqual(split(4, [1, 0, 1, 3, 2, 3]), [0, 0, 3, 3, 5])
        self.assertEqual(split(5, [1, 4, 0, 2, 0, 4, 0, 1, 3, 2]), [0, 2, 4, 5, 9])
        self.assertEqual(split(6, [4, 2, 5, 2, 5, 4, 5, 1, 0, 5, 3, 2, 3, 1]), [0, 3, 5, 6, 11])

    def test_found_by_trial(self):
        for n, o in more_orders():
            self.assertEqual(split(n, o), nearest_by_trial(n, o), (n, o))

    def test_found_by_what_likely_and_ahead_answer(self):
        for n, o in ordinary_orders():
            self.assertEqual(split(n, o), nearest_by_likely(n, o), (n, o))

    def test_fraction_is_what_likely_answers(self):
        for n, o in more_orders():
            answer = split(n, o)
            if answer != NONE_THERE:
                zero, lesser, greater, above, below = answer
                self.assertEqual(likely(n, lesser, greater, o), [zero, above, below], (n, o))

    def test_fractions_are_in_lowest_terms(self):
        for n, o in more_orders():
            answer = split(n, o)
            if answer != NONE_THERE:
                self.assertEqual((len(answer), answer[0]), (5, 0))
                self.assertGreater(answer[4], 0)
                self.assertEqual(math.gcd(answer[3], answer[4]), 1, (n, o))

    def test_answer_is_a_list_of_whole_numbers(self):
        for n, o in ((2, []), (4, [3, 1]), (6, [0, 5]), (0, []), (2, [0, 1, 1, 0]), (1, []), (2, [1, 0])):
            answer = split(n, o)
            self.assertIs(type(answer), list)
            self.assertEqual({type(number) for number in answer}, {int})


class SeveralAsNear(unittest.TestCase):
    def test_first_by_the_lesser_thing(self):
        # Of those as near one may lie above a half and another below it; the first stands in either case.
        self.assertEqual(split(3, [0, 1]), [0, 0, 2, 2, 3])
        self.assertEqual(split(3, [1, 0]), [0, 0, 2, 1, 3])
        self.assertEqual(split(5, [0, 1]), [0, 2, 3, 1, 2])

    def test_then_by_the_greater(self):
        self.assertEqual(split(3, [1, 2]), [0, 0, 1, 1, 3])
        self.assertEqual(split(3, [2, 1]), [0, 0, 1, 2, 3])
        self.assertEqual(split(5, [3, 4]), [0, 0, 1, 1, 2])

    def test_a_later_one_only_where_it_is_nearer(self):
        self.assertEqual(split(4, [0, 1, 2, 3]), [0, 0, 2, 1, 2])
        self.assertEqual(split(4, [0, 1, 3, 2]), [0, 0, 3, 1, 2])
        self.assertEqual(split(4, [0, 1, 3, 1, 3, 2]), [0, 0, 3, 2, 5])


class LesserFirst(unittest.TestCase):
    def test_in_every_answer(self):
        for n, o in more_orders():
            answer = split(n, o)
            if answer != NONE_THERE:
                self.assertLess(answer[1], answer[2], (n, o))
                self.assertLess(answer[2], n)

    def test_two_of_which_neither_must_come_ahead(self):
        for n, o in more_orders():
            answer = split(n, o)
            if answer != NONE_THERE:
                sure = must_be_ahead(n, o)
                self.assertNotIn((answer[1], answer[2]), sure, (n, o))
                self.assertNotIn((answer[2], answer[1]), sure, (n, o))

    def test_pairs_told_the_other_way_round(self):
        for n, o in more_orders():
            answer = split(n, o)
            if answer != NONE_THERE:
                zero, lesser, greater, above, below = answer
                self.assertEqual(split(n, turned(o)), [zero, lesser, greater, below - above, below], (n, o))

    def test_turn_of_the_pairs_changes_nothing(self):
        for n, o in more_orders():
            falling = told(reversed(pairs_of(o)))
            self.assertEqual(split(n, falling), split(n, o), (n, o))


class Corners(unittest.TestCase):
    def test_two_things_with_no_pairs(self):
        self.assertEqual(split(2, []), [0, 0, 1, 1, 2])

    def test_no_pairs(self):
        for n in range(3, 6):
            self.assertEqual(split(n, []), [0, 0, 1, 1, 2])

    def test_six_things_with_no_pairs(self):
        self.assertEqual(split(6, []), [0, 0, 1, 1, 2])

    def test_pair_told_twice(self):
        self.assertEqual(split(4, [2, 1]), [0, 0, 3, 1, 2])
        self.assertEqual(split(4, [2, 1, 2, 1]), [0, 0, 3, 1, 2])
        self.assertEqual(split(3, [2, 0] * 20), [0, 0, 1, 1, 3])

    def test_pair_that_follows(self):
        self.assertEqual(split(4, [2, 1, 1, 0]), [0, 1, 3, 1, 2])
        self.assertEqual(split(4, [2, 1, 1, 0, 2, 0]), [0, 1, 3, 1, 2])

    def test_pair_that_is_sure_changes_nothing(self):
        for n in range(2, 6):
            for o in small_orders(n, 2):
                if not has_ring(n, o):
                    for pair in must_be_ahead(n, o):
                        self.assertEqual(split(n, o + told([pair])), split(n, o), (n, o, pair))


class NoSuchTwo(unittest.TestCase):
    def assert_none(self, n, o):
        answer = split(n, o)
        self.assertEqual(answer, NONE_THERE, (n, o))
        self.assertIs(type(answer), list)

    def test_one_thing(self):
        self.assert_none(1, [])

    def test_all_in_one_row(self):
        self.assert_none(2, [0, 1])
        self.assert_none(2, [1, 0])
        self.assert_none(6, IN_ONE_ROW)

    def test_all_in_one_row_whichever_it_is(self):
        for n in range(2, 6):
            for row in permutations(range(n)):
                self.assert_none(n, told(zip(row, row[1:])))

    def test_all_in_one_row_told_falling(self):
        self.assert_none(6, [5, 4, 4, 3, 3, 2, 2, 1, 1, 0])
        self.assert_none(6, told(reversed(pairs_of(IN_ONE_ROW))))

    def test_all_in_one_row_told_by_pairs_that_follow_too(self):
        self.assert_none(3, [0, 2, 0, 1, 1, 2])
        self.assert_none(6, told(combinations(range(6), 2)))
        self.assert_none(6, told(combinations(range(5, -1, -1), 2)))

    def test_where_every_two_are_sure_and_only_there(self):
        for n, o in more_orders():
            all_sure = len(must_be_ahead(n, o)) == n * (n - 1) // 2
            self.assertEqual(split(n, o) == NONE_THERE, all_sure, (n, o))

    def test_one_pair_less_and_there_are_such_two(self):
        for k in range(5):
            left = pairs_of(IN_ONE_ROW)
            one, other = left.pop(k)
            self.assertNotEqual(split(6, told(left)), NONE_THERE, (one, other))


class WhatHolds(unittest.TestCase):
    def test_three_by_eleven_at_least_and_eight_by_eleven_at_most(self):
        met = set()
        for n, o in more_orders():
            answer = split(n, o)
            if answer != NONE_THERE:
                met.add(n)
                share = Fraction(answer[3], answer[4])
                self.assertLessEqual(Fraction(3, 11), share, (n, o))
                self.assertLessEqual(share, Fraction(8, 11), (n, o))
        self.assertEqual(met, {2, 3, 4, 5, 6})


if __name__ == "__main__":
    unittest.main()
