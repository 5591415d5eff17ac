"""ahead: how many things must come ahead of x, then these, rising."""

import unittest

from likelyorders.chances import ahead, likely
from tests.trial import (
    IN_ONE_ROW,
    MOST,
    ONE_ROW,
    THING_REFUSED,
    has_ring,
    must_be_ahead,
    ordinary_orders,
    pairs_of,
    small_orders,
    told,
)


def ahead_by_walking(o, x):
    """The things ahead of x, by going back from x pair by pair as long as something new is met."""
    met = set()
    at = [x]
    while at:
        behind = at.pop()
        for one, other in pairs_of(o):
            if other == behind and one not in met:
                met.add(one)
                at.append(one)
    return sorted(met)


class OrdinaryOrders(unittest.TestCase):
    def test_things_known_by_hand(self):
        self.assertEqual(ahead(3, 0, [2, 0]), [1, 2])
        self.assertEqual(ahead(3, 2, [2, 0]), [0])
        self.assertEqual(ahead(3, 1, [2, 0]), [0])
        self.assertEqual(ahead(4, 3, [0, 3, 1, 3]), [2, 0, 1])
        self.assertEqual(ahead(5, 2, [4, 1, 1, 2, 3, 0]), [2, 1, 4])
        self.assertEqual(ahead(6, 0, [5, 0, 4, 0, 3, 0, 2, 0, 1, 0]), [5, 1, 2, 3, 4, 5])

    def test_things_found_by_walking(self):
        for n, o in ordinary_orders():
            for x in range(n):
                things = ahead_by_walking(o, x)
                self.assertEqual(ahead(n, x, o), [len(things)] + things, (n, x, o))

    def test_things_that_follow_from_the_pairs(self):
        for n, o in ordinary_orders():
            sure = must_be_ahead(n, o)
            for x in range(n):
                things = [y for y in range(n) if (y, x) in sure]
                self.assertEqual(ahead(n, x, o), [len(things)] + things, (n, x, o))

    def test_just_those_that_likely_has_ahead_for_sure(self):
        for n, o in ordinary_orders():
            for x in range(n):
                things = [y for y in range(n) if y != x and likely(n, y, x, o) == [0, 1, 1]]
                self.assertEqual(ahead(n, x, o), [len(things)] + things, (n, x, o))

    def test_ahead_of_what_is_ahead_is_ahead_too(self):
        for n, o in ordinary_orders():
            things = [ahead(n, x, o)[1:] for x in range(n)]
            for x in range(n):
                self.assertNotIn(x, things[x])
                for y in things[x]:
                    self.assertLess(set(things[y]), set(things[x]), (n, x, y, o))

    def test_answer_is_a_list_of_whole_numbers(self):
        for n, x, o in ((1, 0, []), (6, 5, [0, 5]), (0, 0, []), (2, 0, [0, 1, 1, 0]), (2, 2, [])):
            answer = ahead(n, x, o)
            self.assertIs(type(answer), list)
            self.assertEqual({type(number) for number in answer}, {int})


class BySeveral(unittest.TestCase):
    def test_by_several_pairs_only(self):
        self.assertEqual(ahead(4, 3, [1, 0, 0, 3]), [2, 0, 1])
        self.assertEqual(ahead(6, 2, [4, 1, 1, 5, 5, 2]), [3, 1, 4, 5])
        self.assertEqual(ahead(6, 2, [5, 2, 1, 5, 4, 1]), [3, 1, 4, 5])

    def test_by_two_ways(self):
        self.assertEqual(ahead(4, 3, [0, 1, 0, 2, 1, 3, 2, 3]), [3, 0, 1, 2])

    def test_what_is_behind_or_beside_is_not_told(self):
        self.assertEqual(ahead(6, 1, [4, 1, 1, 5, 5, 2]), [1, 4])
        self.assertEqual(ahead(4, 0, [0, 1, 2, 1, 2, 3]), [0])
        self.assertEqual(ahead(4, 1, [0, 1, 2, 1, 2, 3]), [2, 0, 2])
        self.assertEqual(ahead(4, 3, [0, 1, 2, 1, 2, 3]), [1, 2])


class RisingAndEachOnce(unittest.TestCase):
    def test_pairs_in_falling_turn(self):
        self.assertEqual(ahead(5, 1, [4, 1, 3, 1, 0, 1]), [3, 0, 3, 4])
        self.assertEqual(ahead(5, 0, [4, 0, 2, 0, 3, 2]), [3, 2, 3, 4])

    def test_pairs_told_twice(self):
        self.assertEqual(ahead(5, 1, [4, 1, 3, 1, 4, 1]), [2, 3, 4])
        self.assertEqual(ahead(5, 1, [4, 1] * 20), [1, 4])

    def test_pairs_that_also_follow(self):
        self.assertEqual(ahead(5, 0, [4, 2, 2, 0, 4, 0]), [2, 2, 4])
        self.assertEqual(ahead(5, 0, [4, 0, 2, 0, 4, 2]), [2, 2, 4])

    def test_in_every_answer(self):
        for n, o in ordinary_orders():
            for x in range(n):
                answer = ahead(n, x, (o + o)[:40])
                self.assertEqual(answer[0], len(answer) - 1)
                self.assertEqual(answer[1:], sorted(set(answer[1:])), (n, x, o))


class Corners(unittest.TestCase):
    def test_one_thing(self):
        self.assertEqual(ahead(1, 0, []), [0])

    def test_no_pairs(self):
        for n in range(2, 6):
            for x in range(n):
                self.assertEqual(ahead(n, x, []), [0])

    def test_six_things_with_no_pairs(self):
        for x in range(6):
            self.assertEqual(ahead(6, x, []), [0])

    def test_all_in_one_row(self):
        for place, x in enumerate(ONE_ROW):
            self.assertEqual(ahead(6, x, IN_ONE_ROW), [place] + sorted(ONE_ROW[:place]))

    def test_pair_told_twice(self):
        for x, answer in ((0, [0]), (1, [1, 2]), (2, [0]), (3, [0])):
            self.assertEqual(ahead(4, x, [2, 1]), answer)
            self.assertEqual(ahead(4, x, [2, 1, 2, 1]), answer)

    def test_pair_that_follows(self):
        for x, answer in ((0, [2, 1, 2]), (1, [1, 2]), (2, [0]), (3, [0])):
            self.assertEqual(ahead(4, x, [2, 1, 1, 0]), answer)
            self.assertEqual(ahead(4, x, [2, 1, 1, 0, 2, 0]), answer)

    def test_pair_that_is_sure_changes_nothing(self):
        for n in range(2, 5):
            for o in small_orders(n, 2):
                if not has_ring(n, o):
                    for pair in must_be_ahead(n, o):
                        for x in range(n):
                            self.assertEqual(ahead(n, x, o + told([pair])), ahead(n, x, o), (n, x, o, pair))


class ThingsRefused(unittest.TestCase):
    def assert_refused(self, n, x, o):
        answer = ahead(n, x, o)
        self.assertEqual(answer, THING_REFUSED, (n, x, o))
        self.assertIs(type(answer), list)

    def test_no_such_thing(self):
        for n in range(1, 7):
            for missing in (n, n + 1, MOST - 1, MOST):
                self.assert_refused(n, missing, [])
        for missing in (4, 5, 6, MOST):
            self.assert_refused(4, missing, [0, 1, 1, 2])

    def test_nothing_else(self):
        for n, o in ordinary_orders():
            for x in range(n + 2):
                self.assertEqual(ahead(n, x, o) == THING_REFUSED, x >= n, (n, x, o))


if __name__ == "__main__":
    unittest.main()
