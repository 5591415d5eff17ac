"""What the document promises over the whole program: point 2 of every call, and each call by itself."""

import importlib.util
import unittest
from fractions import Fraction
from itertools import permutations

from likelyorders import chances
from likelyorders.chances import ahead, both, first, height, likely, nth, places, rows, split
from tests.trial import MOST, NONE_THERE, all_pairs, must_be_ahead, ordinary_orders, rows_by_trial, told

# Every call with what is handed in and its answer, worked out by hand from 1 2 0, 2 0 1 and 2 1 0.
NINE_CALLS = (
    ("rows", (3,), [3]),
    ("first", (3,), [3, 1, 2, 0]),
    ("nth", (3, 1), [3, 2, 0, 1]),
    ("likely", (3, 1, 0), [0, 2, 3]),
    ("both", (3, 2, 1, 0), [2, 2, 3, 3]),
    ("places", (3, 0), [3, 0, 1, 2]),
    ("height", (3, 0), [0, 8, 3]),
    ("ahead", (3, 0), [1, 2]),
    ("split", (3,), [0, 0, 1, 1, 3]),
)

# The same calls where they are refused, each with the o it is refused for.
REFUSED_CALLS = (
    ("rows", (7,), [2, 0], [-22]),
    ("first", (3,), [2, 0, 0, 2], [-22]),
    ("nth", (3, 3), [2, 0], [-33]),
    ("likely", (3, 1, 1), [2, 0], [-2]),
    ("both", (3, 2, 1, 3), [2, 0], [-2]),
    ("places", (3, MOST), [2, 0], [-2]),
    ("height", (3, 3), [2, 0, 1], [-22]),
    ("ahead", (3, 3), [2, 0], [-2]),
    ("split", (3,), [2, 0, 0, 1], [-33]),
)


def alone():
    """The calls as if nothing had been called yet."""
    spec = importlib.util.spec_from_file_location("chances_alone", chances.__file__)
    module = importlib.util.module_from_spec(spec)
    spec.loader.exec_module(module)
    return module


def small_ones():
    """(n, o) for ordinary orders that have few rows, for tests that make every call over and over."""
    for n, o in ordinary_orders():
        if n < 4 or len(rows_by_trial(n, o)) <= 6:
            yield n, o


def every_answer(n, o):
    """All that the nine calls answer of an order."""
    answers = [rows(n, o), first(n, o), split(n, o)]
    answers += [nth(n, k, o) for k in range(7)]
    answers += [call(n, x, o) for call in (places, height, ahead) for x in range(n)]
    answers += [likely(n, x, y, o) for x, y in permutations(range(n), 2)]
    answers += [both(n, x, y, z, o) for x, y, z in permutations(range(n), 3)]
    return answers


class EachByItself(unittest.TestCase):
    def test_alone(self):
        for name, numbers, answer in NINE_CALLS:
            self.assertEqual(getattr(alone(), name)(*numbers, [2, 0]), answer, name)
        for name, numbers, o, answer in REFUSED_CALLS:
            self.assertEqual(getattr(alone(), name)(*numbers, list(o)), answer, name)

    def test_one_after_another(self):
        o = [2, 0]
        module = alone()
        for turn in (NINE_CALLS, NINE_CALLS[::-1], NINE_CALLS):
            for name, numbers, answer in turn:
                self.assertEqual(getattr(module, name)(*numbers, o), answer, name)
        self.assertEqual(o, [2, 0])

    def test_each_behind_each(self):
        for name, numbers, answer in NINE_CALLS:
            for other, other_numbers, other_answer in NINE_CALLS:
                module = alone()
                self.assertEqual(getattr(module, name)(*numbers, [2, 0]), answer)
                self.assertEqual(getattr(module, other)(*other_numbers, [2, 0]), other_answer, (name, other))

    def test_each_behind_a_refusal(self):
        for name, numbers, o, answer in REFUSED_CALLS:
            for other, other_numbers, other_answer in NINE_CALLS:
                module = alone()
                self.assertEqual(getattr(module, name)(*numbers, list(o)), answer)
                self.assertEqual(getattr(module, other)(*other_numbers, [2, 0]), other_answer, (name, other))

    def test_orders_one_after_another(self):
        orders = list(small_ones())[::9]
        before = [every_answer(n, list(o)) for n, o in orders]
        after = [every_answer(n, list(o)) for n, o in reversed(orders)]
        self.assertEqual(before, after[::-1])


class ThereIsARow(unittest.TestCase):
    def test_every_call_answers_of_every_order(self):
        for n, o in ordinary_orders():
            number = rows(n, o)[0]
            self.assertGreaterEqual(number, 1, (n, o))
            self.assertEqual(first(n, o), nth(n, 0, o))
            self.assertEqual(nth(n, number, o), NONE_THERE)
            self.assertEqual(sorted(nth(n, number - 1, o)[1:]), list(range(n)))
            self.assertEqual(split(n, o) == NONE_THERE, number == 1, (n, o))
            for x in range(n):
                self.assertEqual(sum(places(n, x, o)[1:]), number, (n, x, o))
                self.assertGreaterEqual(Fraction(*height(n, x, o)[1:]), 1 + ahead(n, x, o)[0], (n, x, o))

    def test_likely_and_both_answer_of_every_order(self):
        for n, o in small_ones():
            for x, y in all_pairs(n):
                self.assertEqual(likely(n, x, y, o)[0], 0)
            for x, y, z in permutations(range(n), 3):
                self.assertEqual(both(n, x, y, z, o)[3:], rows(n, o))


class MoreOfOneThanOfAnother(unittest.TestCase):
    def test_ahead_of_both(self):
        for n, o in small_ones():
            for x, y, z in permutations(range(n), 3):
                ahead_of_both, ahead_of_y, ahead_of_z, number = both(n, x, y, z, o)
                self.assertLessEqual(ahead_of_y * ahead_of_z, number * ahead_of_both, (n, x, y, z, o))

    def test_places_rise_and_fall(self):
        for n, o in small_ones():
            for x in range(n):
                at_each = places(n, x, o)[1:]
                for before, here, behind in zip(at_each, at_each[1:], at_each[2:]):
                    self.assertGreaterEqual(here * here, before * behind, (n, x, o))

    def test_nearest_to_a_half(self):
        for n, o in small_ones():
            answer = split(n, o)
            if answer != NONE_THERE:
                self.assertLessEqual(3 * answer[4], 11 * answer[3], (n, o))
                self.assertLessEqual(11 * answer[3], 8 * answer[4], (n, o))


class APairMore(unittest.TestCase):
    def no_more_of(self, calls, n, o, more):
        for call, numbers in calls:
            for before, after in zip(call(n, *numbers, o), call(n, *numbers, more)):
                self.assertLessEqual(after, before, (call, n, numbers, more))

    def test_lets_no_more_rows_be(self):
        for n, o in list(small_ones())[::2]:
            calls = [(rows, ())] + [(places, (x,)) for x in range(n)]
            calls += [(both, three) for three in list(permutations(range(n), 3))[::7]]
            for pair in all_pairs(n):
                if pair[::-1] not in must_be_ahead(n, o):
                    self.no_more_of(calls, n, o, o + told([pair]))

    def test_takes_no_thing_from_those_ahead_and_puts_no_row_before_the_first(self):
        for n, o in list(small_ones())[::2]:
            for pair in all_pairs(n):
                if pair[::-1] not in must_be_ahead(n, o):
                    more = o + told([pair])
                    self.assertGreaterEqual(first(n, more), first(n, o), (n, more))
                    for x in range(n):
                        self.assertLessEqual(set(ahead(n, x, o)[1:]), set(ahead(n, x, more)[1:]), (n, x, more))

    def test_one_that_is_sure_changes_nothing(self):
        for n, o in list(small_ones())[::3]:
            answers = every_answer(n, o)
            for pair in sorted(must_be_ahead(n, o)):
                self.assertEqual(every_answer(n, o + told([pair])), answers, (n, o, pair))
                self.assertEqual(every_answer(n, told([pair]) + o), answers, (n, o, pair))


if __name__ == "__main__":
    unittest.main()
