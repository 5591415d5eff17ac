"""Rows found in another way than the program's, and orders to try: what the tests hold the answers against."""

from fractions import Fraction
from itertools import combinations, permutations

REFUSED = [-22]
THING_REFUSED = [-2]
NONE_THERE = [-33]
MOST = 4294967295


def told(pairs):
    """The pairs as the list of numbers that is handed in."""
    return [thing for pair in pairs for thing in pair]


ONE_ROW = [5, 3, 0, 4, 1, 2]
IN_ONE_ROW = told(zip(ONE_ROW, ONE_ROW[1:]))


def pairs_of(o):
    return list(zip(o[0::2], o[1::2]))


def rows_by_trial(n, o):
    """Of all rows of n things those that keep to every pair; permutations come the lesser first."""
    return [
        row
        for row in permutations(range(n))
        if all(row.index(one) < row.index(other) for one, other in pairs_of(o))
    ]


def must_be_ahead(n, o):
    """All (x, y) for which x must come ahead of y, by a pair or by several."""
    reached = set(pairs_of(o))
    for between in range(n):
        for one in range(n):
            for other in range(n):
                if (one, between) in reached and (between, other) in reached:
                    reached.add((one, other))
    return reached


def nearest_by_trial(n, o):
    """What split is to answer: of all two of which neither must come ahead the first by how far they are off."""
    found = rows_by_trial(n, o)
    sure = must_be_ahead(n, o)
    choices = []
    for lesser, greater in combinations(range(n), 2):
        if (lesser, greater) not in sure and (greater, lesser) not in sure:
            share = Fraction(sum(greater in row[row.index(lesser) :] for row in found), len(found))
            choices.append((abs(share - Fraction(1, 2)), lesser, greater, share.numerator, share.denominator))
    if not choices:
        return NONE_THERE
    return [0] + list(min(choices)[1:])


def has_ring(n, o):
    return any(one == other for one, other in must_be_ahead(n, o))


def all_pairs(n):
    return list(permutations(range(n), 2))


def every_order(n):
    """Every choice of pairs of n things, those with a ring too."""
    pairs = all_pairs(n)
    for size in range(len(pairs) + 1):
        for chosen in combinations(pairs, size):
            yield told(chosen)


def small_orders(n, most):
    """Every choice of at most so many pairs of n things."""
    for size in range(most + 1):
        for chosen in combinations(all_pairs(n), size):
            yield told(chosen)


def ringless_orders(n, step):
    """Every step-th choice among the pairs that rise along one shuffled row, the pairs told in falling turn."""
    row = [3, 0, 5, 1, 4, 2]
    along = [thing for thing in row if thing < n]
    pairs = list(combinations(along, 2))
    for choice in range(0, 2 ** len(pairs), step):
        yield told([pair for k, pair in reversed(list(enumerate(pairs))) if choice >> k & 1])


def orders_to_try():
    """(n, o) for orders with and without rings, of every n."""
    for n in range(1, 5):
        for o in every_order(n):
            yield n, o
    for o in small_orders(5, 3):
        yield 5, o
    for o in ringless_orders(5, 1):
        yield 5, o
    for o in small_orders(6, 2):
        yield 6, o
    for o in ringless_orders(6, 41):
        yield 6, o


def ordinary_orders():
    """(n, o) for orders of every n, all without a ring; few enough to go through all things of each."""
    for n in range(1, 4):
        for o in every_order(n):
            if not has_ring(n, o):
                yield n, o
    for n, most in ((4, 3), (5, 2)):
        for o in small_orders(n, most):
            if not has_ring(n, o):
                yield n, o
    for n, step in ((4, 3), (5, 31), (6, 1001)):
        for o in ringless_orders(n, step):
            yield n, o


class Untouchable(list):
    """A list that fails as soon as it is changed, be it for a while."""

    def refuse(self, *args, **kwargs):
        raise AssertionError("what was handed in was changed")

    append = extend = insert = remove = pop = clear = sort = reverse = refuse
    __setitem__ = __delitem__ = __iadd__ = __imul__ = refuse
