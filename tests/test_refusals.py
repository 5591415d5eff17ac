"""-22, alone in the list, where n or o isn't as it must be; and the longest o, refused or not."""

import unittest
from fractions import Fraction

from likelyorders.chances import ahead, both, first, height, likely, nth, places, rows, split
from tests.trial import (
    MOST,
    REFUSED,
    has_ring,
    must_be_ahead,
    nearest_by_trial,
    orders_to_try,
    rows_by_trial,
    told,
)

ALL_THAT_RISE = told([(one, other) for one in range(6) for other in range(one + 1, 6)])

# Each call with the numbers that stand between n and o: such as are well, and such as would be refused in turn.
CALLS = (
    (rows, ()),
    (first, ()),
    (nth, (0,)),
    (nth, (720,)),
    (nth, (MOST,)),
    (likely, (0, 1)),
    (likely, (1, 0)),
    (likely, (0, 0)),
    (likely, (6, 0)),
    (likely, (0, MOST)),
    (likely, (MOST, MOST)),
    (both, (0, 1, 2)),
    (both, (2, 1, 0)),
    (both, (0, 0, 1)),
    (both, (0, 1, 0)),
    (both, (1, 0, 0)),
    (both, (6, 1, 2)),
    (both, (0, MOST, 2)),
    (both, (0, 1, 6)),
    (places, (0,)),
    (places, (6,)),
    (places, (MOST,)),
    (height, (0,)),
    (height, (6,)),
    (height, (MOST,)),
    (ahead, (0,)),
    (ahead, (6,)),
    (ahead, (MOST,)),
    (split, ()),
)


class Refusals(unittest.TestCase):
    def assert_refused(self, n, o):
        for call, numbers in CALLS:
            answer = call(n, *numbers, o)
            self.assertEqual(answer, REFUSED, (call, n, numbers, o))
            self.assertIs(type(answer), list)

    def test_n(self):
        for n in (0, 7, 8, 40, MOST - 1, MOST):
            for o in ([], [0, 1], [0], [0, 0]):
                self.assert_refused(n, o)

    def test_odd_count(self):
        for n in range(1, 7):
            self.assert_refused(n, [0])
        self.assert_refused(3, [0, 1, 2])
        self.assert_refused(3, [0, 1, 0])
        self.assert_refused(6, [0, 1, 1, 2, 3])
        self.assert_refused(6, [0, 1] * 19 + [0])

    def test_thing_with_itself(self):
        for n in range(1, 7):
            for thing in range(n):
                self.assert_refused(n, [thing, thing])
        self.assert_refused(4, [0, 1, 2, 2])
        self.assert_refused(4, [2, 2, 0, 1])
        self.assert_refused(4, [0, 1, 3, 3, 1, 2])

    def test_thing_that_there_is_not(self):
        for n in range(1, 7):
            for missing in (n, n + 1, MOST):
                self.assert_refused(n, [0, missing])
                self.assert_refused(n, [missing, 0])
        self.assert_refused(3, [0, 1, 1, 3])
        self.assert_refused(3, [3, 1, 0, 1])
        self.assert_refused(3, [0, 1, MOST, 2, 1, 2])
        self.assert_refused(6, [MOST, MOST])
        self.assert_refused(6, [6, MOST])

    def test_ring_of_two(self):
        self.assert_refused(2, [0, 1, 1, 0])
        self.assert_refused(6, [5, 2, 2, 5])

    def test_longer_rings(self):
        self.assert_refused(3, [0, 1, 1, 2, 2, 0])
        self.assert_refused(4, [2, 0, 3, 1, 0, 3, 1, 2])
        self.assert_refused(6, [0, 1, 1, 2, 2, 3, 3, 4, 4, 5, 5, 0])

    def test_ring_beside_pairs_that_are_well(self):
        self.assert_refused(4, [0, 1, 2, 3, 3, 2])
        self.assert_refused(4, [2, 3, 3, 2, 0, 1])
        self.assert_refused(6, [0, 1, 3, 4, 1, 2, 4, 5, 5, 3])
        self.assert_refused(6, [0, 1, 1, 2, 2, 3, 3, 4, 4, 5, 5, 4])

    def test_every_ring_is_refused_and_nothing_else(self):
        for n, o in orders_to_try():
            ring = has_ring(n, o)
            for call, numbers in CALLS:
                self.assertEqual(call(n, *numbers, o) == REFUSED, ring, (call, n, numbers, o))


class TheLongest(unittest.TestCase):
    def assert_answered(self, n, o):
        self.assertEqual(len(o), 40)
        found = rows_by_trial(n, o)
        self.assertEqual(rows(n, o), [len(found)])
        self.assertEqual(first(n, o), [n] + list(found[0]))
        self.assertEqual(nth(n, len(found) - 1, o), [n] + list(found[-1]))
        self.assertEqual(likely(n, o[0], o[1], o), [0, 1, 1])
        self.assertEqual(likely(n, o[-1], o[-2], o), [0, 0, 1])
        at_each = [[row[place] for row in found].count(o[0]) for place in range(n)]
        self.assertEqual(places(n, o[0], o), [n] + at_each)
        mean = Fraction(sum(row.index(o[0]) + 1 for row in found), len(found))
        self.assertEqual(height(n, o[0], o), [0, mean.numerator, mean.denominator])
        things = sorted(one for one, other in must_be_ahead(n, o) if other == o[1])
        self.assertEqual(ahead(n, o[1], o), [len(things)] + things)
        self.assertEqual(split(n, o), nearest_by_trial(n, o))
        if n > 2:
            third = min(set(range(n)) - {o[0], o[1]})
            left = [row for row in found if row.index(o[0]) < row.index(third)]
            self.assertEqual(both(n, o[0], o[1], third, o), [len(left), len(found), len(left), len(found)])

    def assert_refused(self, n, o):
        self.assertEqual(len(o), 40)
        for call, numbers in CALLS:
            self.assertEqual(call(n, *numbers, o), REFUSED, (call, n, numbers, o))

    def test_answered_where_its_pairs_are_well(self):
        self.assert_answered(2, [1, 0] * 20)
        self.assert_answered(6, [4, 1] * 20)
        self.assert_answered(6, [5, 0, 3, 2] * 10)
        self.assert_answered(6, ALL_THAT_RISE + ALL_THAT_RISE[:10])
        self.assert_answered(6, [0, 1] * 19 + [5, 2])
        self.assert_answered(6, [5, 2] + [0, 1] * 19)

    def test_refused_where_they_are_not(self):
        well = [0, 1] * 19
        for bad in ([1, 0], [2, 2], [0, 6], [6, 0], [MOST, 1], [1, MOST]):
            self.assert_refused(6, well + bad)
            self.assert_refused(6, bad + well)
        self.assert_refused(6, ALL_THAT_RISE + [0, 1] * 4 + [5, 0])
        self.assert_refused(1, [0, 0] * 20)
        self.assert_refused(0, well + [0, 1])
        self.assert_refused(7, well + [0, 1])


if __name__ == "__main__":
    unittest.main()
