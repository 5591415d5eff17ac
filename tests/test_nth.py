"""nth: n, then row k, counted from 0; -33 where there is no row k."""

import unittest

from likelyorders.chances import first, nth, rows
from tests.trial import (
    IN_ONE_ROW,
    MOST,
    NONE_THERE,
    has_ring,
    must_be_ahead,
    ordinary_orders,
    rows_by_trial,
    small_orders,
    told,
)


class OrdinaryOrders(unittest.TestCase):
    def test_rows_known_by_hand(self):
        self.assertEqual(nth(3, 0, [2, 0]), [3, 1, 2, 0])
        self.assertEqual(nth(3, 1, [2, 0]), [3, 2, 0, 1])
        self.assertEqual(nth(3, 2, [2, 0]), [3, 2, 1, 0])
        self.assertEqual(nth(4, 3, [0, 1, 2, 3]), [4, 2, 0, 1, 3])
        self.assertEqual(nth(4, 5, [0, 1, 2, 3]), [4, 2, 3, 0, 1])
        self.assertEqual(nth(5, 59, [4, 0]), [5, 4, 3, 2, 1, 0])

    def test_every_row_found_by_trial_and_none_behind_it(self):
        for n, o in ordinary_orders():
            found = rows_by_trial(n, o)
            for k, row in enumerate(found):
                self.assertEqual(nth(n, k, o), [n] + list(row), (n, k, o))
            for k in (len(found), len(found) + 1, MOST):
                self.assertEqual(nth(n, k, o), NONE_THERE, (n, k, o))

    def test_row_0_is_what_first_answers(self):
        for n, o in ordinary_orders():
            self.assertEqual(nth(n, 0, o), first(n, o), (n, o))

    def test_last_row_is_one_less_than_rows_answers(self):
        for n, o in ordinary_orders():
            (number,) = rows(n, o)
            self.assertEqual(nth(n, number - 1, o), [n] + list(rows_by_trial(n, o)[-1]), (n, o))
            self.assertEqual(nth(n, number, o), NONE_THERE, (n, o))

    def test_answer_is_a_list_of_whole_numbers(self):
        for n, k, o in ((1, 0, []), (4, 5, [3, 1]), (6, 719, []), (6, 720, []), (0, 0, []), (2, 0, [0, 1, 1, 0])):
            answer = nth(n, k, o)
            self.assertIs(type(answer), list)
            self.assertEqual({type(number) for number in answer}, {int})


class Corners(unittest.TestCase):
    def test_one_thing(self):
        self.assertEqual(nth(1, 0, []), [1, 0])
        for k in (1, 2, MOST):
            self.assertEqual(nth(1, k, []), NONE_THERE)

    def test_no_pairs(self):
        for n, number in ((2, 2), (3, 6), (4, 24), (5, 120)):
            self.assertEqual(nth(n, 0, []), [n] + list(range(n)))
            self.assertEqual(nth(n, number - 1, []), [n] + list(reversed(range(n))))
            self.assertEqual(nth(n, number, []), NONE_THERE)

    def test_all_in_one_row(self):
        self.assertEqual(nth(6, 0, IN_ONE_ROW), [6, 5, 3, 0, 4, 1, 2])
        for k in (1, 2, 719, 720, MOST - 1, MOST):
            self.assertEqual(nth(6, k, IN_ONE_ROW), NONE_THERE)

    def test_six_things_with_no_pairs(self):
        self.assertEqual(nth(6, 0, []), [6, 0, 1, 2, 3, 4, 5])
        self.assertEqual(nth(6, 120, []), [6, 1, 0, 2, 3, 4, 5])
        self.assertEqual(nth(6, 718, []), [6, 5, 4, 3, 2, 0, 1])
        self.assertEqual(nth(6, 719, []), [6, 5, 4, 3, 2, 1, 0])
        for k in (720, 721, MOST):
            self.assertEqual(nth(6, k, []), NONE_THERE)

    def test_pair_told_twice(self):
        self.assertEqual(nth(4, 11, [2, 1, 2, 1]), [4, 3, 2, 1, 0])
        self.assertEqual(nth(4, 12, [2, 1, 2, 1]), NONE_THERE)

    def test_pair_that_is_sure_changes_nothing(self):
        for n in range(2, 5):
            for o in small_orders(n, 2):
                if not has_ring(n, o):
                    for pair in must_be_ahead(n, o):
                        for k in range(rows(n, o)[0] + 1):
                            self.assertEqual(nth(n, k, o + told([pair])), nth(n, k, o), (n, k, o, pair))


if __name__ == "__main__":
    unittest.main()
